"""How fractions, steps, bounds and doses are told as whole numbers."""

from risingcurves.line import doses_of
from risingcurves.line import is_above
from risingcurves.line import is_below


def told(fraction):
    return [fraction.top, fraction.bottom]


def told_step(height):
    if height is None:
        return [0, 0, 0]
    return [1] + told(height)


def told_bound(bound):
    if bound is None:
        return [0, 0]
    return [1, bound]


def told_doses(curve, response):
    """The doses of a response: 0, the first and the last one; or 1 if it is below; or 2 if it is above."""
    if is_below(curve, response):
        return [1]
    if is_above(curve, response):
        return [2]
    doses = doses_of(curve, response)
    return [0] + told(doses[0]) + told(doses[1])
