"""The line through a curve's values, the doses of a response, the steps at a dose, the gap of two lines."""

from risingcurves.fraction import Fraction
from risingcurves.fraction import less
from risingcurves.fraction import minus
from risingcurves.fraction import size_of
from risingcurves.fraction import whole


def last_at_most(fractions, limit):
    """The place of the last one that is at most limit, or None; the fractions never fall."""
    found = None
    for place, fraction in enumerate(fractions):
        if not less(limit, fraction):
            found = place
    return found


def first_at_least(fractions, limit):
    """The place of the first one that is at least limit, or None; the fractions never fall."""
    for place, fraction in enumerate(fractions):
        if not less(fraction, limit):
            return place
    return None


def straight(across, up, place, at):
    """Where the straight way from point place to the next one is at a number across; across rises between them.

    A response less a shift can have hundreds of digits, so lowest terms are looked for once, at the end.
    """
    left = across[place]
    right = across[place + 1]
    start = up[place]
    end = up[place + 1]
    share_top = (at.top * left.bottom - left.top * at.bottom) * right.bottom
    share_bottom = (right.top * left.bottom - left.top * right.bottom) * at.bottom
    climb_top = end.top * start.bottom - start.top * end.bottom
    top = start.top * end.bottom * share_bottom + share_top * climb_top
    return Fraction(top, start.bottom * end.bottom * share_bottom)


def has_line(curve, dose):
    """Whether there is a line at a whole dose."""
    return curve.doses[0] <= dose <= curve.doses[-1]


def line_at(curve, dose):
    """The line at a dose, or None where there is no line."""
    doses = curve.whole_doses
    place = last_at_most(doses, dose)
    if place is None or less(doses[-1], dose):
        return None
    if place == len(doses) - 1:
        return curve.heights[place]
    return straight(doses, curve.heights, place, dose)


def is_below(curve, response):
    return less(response, curve.heights[0])


def is_above(curve, response):
    return less(curve.heights[-1], response)


def doses_of(curve, response):
    """Where the line comes to a response that is neither below nor above, and where it leaves it."""
    reached = first_at_least(curve.heights, response)
    left = last_at_most(curve.heights, response)
    if left < reached:
        # no dose has this value: the line rises through it between two doses
        crossing = straight(curve.heights, curve.whole_doses, left, response)
        return [crossing, crossing]
    return [curve.whole_doses[reached], curve.whole_doses[left]]


def height_or_none(curve, place):
    if place is None:
        return None
    return curve.heights[place]


def low_step(curve, dose):
    return height_or_none(curve, last_at_most(curve.whole_doses, whole(dose)))


def high_step(curve, dose):
    return height_or_none(curve, first_at_least(curve.whole_doses, whole(dose)))


def shared_doses(one, other):
    """The doses of either curve at which both lines are, rising."""
    return [dose for dose in sorted(set(one.doses + other.doses)) if has_line(one, dose) and has_line(other, dose)]


class Gap:
    """The greatest difference of two lines, and the least dose of either at which it is so great."""

    def __init__(self, size, dose):
        self.size = size
        self.dose = dose


def gap_between(one, other):
    """The gap of two curves' lines, or None if there is no dose at which both are.

    Between doses that follow one another both lines are straight: nowhere there they are further apart than at an end.
    """
    gap = None
    for dose in shared_doses(one, other):
        at = whole(dose)
        size = size_of(minus(line_at(one, at), line_at(other, at)))
        if gap is None or less(gap.size, size):
            gap = Gap(size, dose)
    return gap
