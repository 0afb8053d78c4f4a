"""The line through a curve's values, the doses of a response, and the steps at a dose."""

from risingcurves.fraction import less
from risingcurves.fraction import minus
from risingcurves.fraction import over
from risingcurves.fraction import plus
from risingcurves.fraction import times
from risingcurves.fraction import whole


def last_at_most(fractions, limit):
    """The place of the last one that is at most limit, or None; the fractions never fall."""
    found = None
    for place, fraction in enumerate(fractions):
        if not less(limit, fraction):
            found = place
    return found


def first_at_least(fractions, limit):
    """The place of the first one that is at least limit, or None; the fractions never fall."""
    for place, fraction in enumerate(fractions):
        if not less(fraction, limit):
            return place
    return None


def straight(across, up, place, at):
    """Where the straight way from point place to the next one is at a number across; across rises between them."""
    share = over(minus(at, across[place]), minus(across[place + 1], across[place]))
    return plus(up[place], times(share, minus(up[place + 1], up[place])))


def whole_doses(curve):
    return [whole(dose) for dose in curve.doses]


def line_at(curve, dose):
    """The line at a dose, or None where there is no line."""
    doses = whole_doses(curve)
    place = last_at_most(doses, dose)
    if place is None or less(doses[-1], dose):
        return None
    if place == len(doses) - 1:
        return curve.heights[place]
    return straight(doses, curve.heights, place, dose)


def is_below(curve, response):
    return less(response, curve.heights[0])


def is_above(curve, response):
    return less(curve.heights[-1], response)


def first_dose(curve, response):
    """Where the line comes to a response that is neither below nor above."""
    place = first_at_least(curve.heights, response)
    if place == 0:
        return whole(curve.doses[0])
    return straight(curve.heights, whole_doses(curve), place - 1, response)


def last_dose(curve, response):
    """Where the line leaves a response that is neither below nor above."""
    place = last_at_most(curve.heights, response)
    if place == len(curve.doses) - 1:
        return whole(curve.doses[place])
    return straight(curve.heights, whole_doses(curve), place, response)


def height_or_none(curve, place):
    if place is None:
        return None
    return curve.heights[place]


def low_step(curve, dose):
    return height_or_none(curve, last_at_most(whole_doses(curve), whole(dose)))


def high_step(curve, dose):
    return height_or_none(curve, first_at_least(whole_doses(curve), whole(dose)))
