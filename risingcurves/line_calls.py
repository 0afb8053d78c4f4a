"""The calls that tell a lot's line, its doses, its steps and its shift, and the gap of two lots."""

from risingcurves.controls import shift_of
from risingcurves.controls import shift_refusal
from risingcurves.curve import Curve
from risingcurves.fraction import Fraction
from risingcurves.line import gap_between
from risingcurves.line import high_step
from risingcurves.line import line_at
from risingcurves.line import low_step
from risingcurves.lots import is_dose
from risingcurves.refusals import NO_LINE
from risingcurves.refusals import NO_READINGS
from risingcurves.refusals import NO_SHARED_DOSE
from risingcurves.refusals import OUT_OF_RANGE
from risingcurves.telling import told
from risingcurves.telling import told_doses
from risingcurves.telling import told_step

MOST_PART = 1000
MOST_ASKED = 1000000


def is_asked_fraction(top, bottom):
    """Whether top / bottom may be asked for as a dose or a response."""
    return 1 <= bottom <= MOST_PART and -MOST_ASKED * bottom <= top <= MOST_ASKED * bottom


def answer_value(desk, numbers):
    readings = desk.lots[numbers[0]].readings
    if not is_asked_fraction(numbers[1], numbers[2]):
        return [OUT_OF_RANGE]
    if len(readings) == 0:
        return [NO_READINGS]
    height = line_at(Curve(readings), Fraction(numbers[1], numbers[2]))
    if height is None:
        return [NO_LINE]
    return [0] + told(height)


def answer_dose(desk, numbers):
    readings = desk.lots[numbers[0]].readings
    if not is_asked_fraction(numbers[1], numbers[2]):
        return [OUT_OF_RANGE]
    if len(readings) == 0:
        return [NO_READINGS]
    return told_doses(Curve(readings), Fraction(numbers[1], numbers[2]))


def answer_step(desk, numbers):
    readings = desk.lots[numbers[0]].readings
    if not is_dose(numbers[1]):
        return [OUT_OF_RANGE]
    if len(readings) == 0:
        return [NO_READINGS]
    curve = Curve(readings)
    return [0] + told_step(low_step(curve, numbers[1])) + told_step(high_step(curve, numbers[1]))


def answer_shift(desk, numbers):
    lot = desk.lots[numbers[0]]
    if len(lot.readings) == 0:
        return [NO_READINGS]
    curve = Curve(lot.readings)
    refusal = shift_refusal(curve, lot.controls)
    if refusal is not None:
        return [refusal]
    return [0] + told(shift_of(curve, lot.controls))


def answer_gap(desk, numbers):
    readings = desk.lots[numbers[0]].readings
    other_readings = desk.lots[numbers[1]].readings
    if len(readings) == 0 or len(other_readings) == 0:
        return [NO_READINGS]
    gap = gap_between(Curve(readings), Curve(other_readings))
    if gap is None:
        return [NO_SHARED_DOSE]
    return told(gap.size) + [gap.dose]


LINE_ANSWERS = {9: answer_value, 10: answer_dose, 11: answer_step, 17: answer_shift, 18: answer_gap}


def answer_line_call(desk, number, numbers):
    answer = LINE_ANSWERS[number]
    return answer(desk, numbers)
