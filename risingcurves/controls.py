"""The shift that a lot's controls show."""

from risingcurves.fraction import minus
from risingcurves.fraction import over
from risingcurves.fraction import plus
from risingcurves.fraction import times
from risingcurves.fraction import whole
from risingcurves.line import has_line
from risingcurves.line import line_at
from risingcurves.refusals import CONTROL_OFF_LINE
from risingcurves.refusals import NO_CONTROL


def shift_refusal(curve, controls):
    """Why there is no shift, or None if there is one."""
    if len(controls) == 0:
        return NO_CONTROL
    if not all([has_line(curve, control.dose) for control in controls]):
        return CONTROL_OFF_LINE
    return None


def shift_of(curve, controls):
    """The mean, by weight, of response less line over controls, of which there is one at least, all on the line."""
    total = whole(0)
    for control in controls:
        off = minus(whole(control.response), line_at(curve, whole(control.dose)))
        total = plus(total, times(whole(control.weight), off))
    return over(total, whole(sum([control.weight for control in controls])))
