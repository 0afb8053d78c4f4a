"""The desk: takes a list of calls and answers them one behind another."""

from risingcurves.curve import Curve
from risingcurves.curve import block_height
from risingcurves.curve import never_falls
from risingcurves.curve import running_sums
from risingcurves.curve import square_sum
from risingcurves.fraction import Fraction
from risingcurves.fraction import whole
from risingcurves.line import first_dose
from risingcurves.line import high_step
from risingcurves.line import is_above
from risingcurves.line import is_below
from risingcurves.line import last_dose
from risingcurves.line import line_at
from risingcurves.line import low_step
from risingcurves.lots import MOST_READINGS
from risingcurves.lots import Lot
from risingcurves.lots import Reading
from risingcurves.lots import is_dose
from risingcurves.lots import is_reading
from risingcurves.lots import is_response
from risingcurves.truth import lower_bound
from risingcurves.truth import two_clash
from risingcurves.truth import upper_bound

LAST_LOT = 3
LAST_TIME = 4611686018427387904
MOST_PART = 1000
MOST_ASKED = 1000000

NO_LOT_NUMBER = -1
NOT_THERE = -2
OUT_OF_RANGE = -3
FULL = -4
NO_READINGS = -5
NO_LINE = -6
CLASHING = -8

CALL_LOT = 0
CALL_TRIAL = 8


class Desk:
    """What the calls of one list work on; it is new for each list."""

    def __init__(self):
        self.lots = {}


def told(fraction):
    return [fraction.top, fraction.bottom]


def told_step(height):
    if height is None:
        return [0, 0, 0]
    return [1] + told(height)


def told_bound(bound):
    if bound is None:
        return [0, 0]
    return [1, bound]


def told_doses(curve, response):
    if is_below(curve, response):
        return [1]
    if is_above(curve, response):
        return [2]
    return [0] + told(first_dose(curve, response)) + told(last_dose(curve, response))


def is_asked_fraction(top, bottom):
    """Whether top / bottom may be asked for as a dose or a response."""
    return 1 <= bottom <= MOST_PART and -MOST_ASKED * bottom <= top <= MOST_ASKED * bottom


def answer_lot(desk, numbers):
    good_until = numbers[1]
    if not 0 <= good_until <= LAST_TIME:
        return [OUT_OF_RANGE]
    desk.lots[numbers[0]] = Lot(good_until)
    return [0]


def answer_point(desk, numbers):
    readings = desk.lots[numbers[0]].readings
    reading = Reading(numbers[1], numbers[2], numbers[3], numbers[4])
    if not is_reading(reading):
        return [OUT_OF_RANGE]
    if len(readings) >= MOST_READINGS:
        return [FULL]
    readings.append(reading)
    return [len(readings) - 1]


def answer_unpoint(desk, numbers):
    readings = desk.lots[numbers[0]].readings
    if not 0 <= numbers[1] < len(readings):
        return [OUT_OF_RANGE]
    readings.pop(numbers[1])
    return [len(readings)]


def answer_points(desk, numbers):
    readings = desk.lots[numbers[0]].readings
    answer = [0, len(readings)]
    for reading in readings:
        answer.extend([reading.dose, reading.response, reading.weight, reading.bound])
    return answer


def answer_fit(desk, numbers):
    readings = desk.lots[numbers[0]].readings
    if len(readings) == 0:
        return [NO_READINGS]
    curve = Curve(readings)
    answer = [0, len(curve.doses)]
    for dose, height in zip(curve.doses, curve.heights):
        answer.extend([dose] + told(height))
    return answer


def answer_blocks(desk, numbers):
    readings = desk.lots[numbers[0]].readings
    if len(readings) == 0:
        return [NO_READINGS]
    blocks = Curve(readings).blocks
    answer = [0, len(blocks)]
    for block in blocks:
        answer.extend([block.first, block.last, block.size, block.weight] + told(block_height(block)))
    return answer


def answer_sums(desk, numbers):
    readings = desk.lots[numbers[0]].readings
    if len(readings) == 0:
        return [NO_READINGS]
    sums = running_sums(Curve(readings))
    answer = [0, len(sums)]
    for running in sums:
        answer.extend(told(running))
    return answer


def answer_squares(desk, numbers):
    readings = desk.lots[numbers[0]].readings
    if len(readings) == 0:
        return [NO_READINGS]
    curve = Curve(readings)
    return told(square_sum(readings, curve.doses, curve.heights))


def answer_trial(desk, numbers):
    readings = desk.lots[numbers[0]].readings
    if len(readings) == 0:
        return [NO_READINGS]
    # numbers[1] is how many values there are: they stand behind it
    tried = numbers[2:]
    doses = Curve(readings).doses
    if len(tried) != len(doses) or not all([is_response(number) for number in tried]):
        return [OUT_OF_RANGE]
    squares = square_sum(readings, doses, [whole(number) for number in tried])
    return [squares.top, 1 if never_falls(tried) else 0]


def answer_value(desk, numbers):
    readings = desk.lots[numbers[0]].readings
    if not is_asked_fraction(numbers[1], numbers[2]):
        return [OUT_OF_RANGE]
    if len(readings) == 0:
        return [NO_READINGS]
    height = line_at(Curve(readings), Fraction(numbers[1], numbers[2]))
    if height is None:
        return [NO_LINE]
    return [0] + told(height)


def answer_dose(desk, numbers):
    readings = desk.lots[numbers[0]].readings
    if not is_asked_fraction(numbers[1], numbers[2]):
        return [OUT_OF_RANGE]
    if len(readings) == 0:
        return [NO_READINGS]
    return told_doses(Curve(readings), Fraction(numbers[1], numbers[2]))


def answer_step(desk, numbers):
    readings = desk.lots[numbers[0]].readings
    if not is_dose(numbers[1]):
        return [OUT_OF_RANGE]
    if len(readings) == 0:
        return [NO_READINGS]
    curve = Curve(readings)
    return [0] + told_step(low_step(curve, numbers[1])) + told_step(high_step(curve, numbers[1]))


def answer_truth(desk, numbers):
    readings = desk.lots[numbers[0]].readings
    if not is_dose(numbers[1]):
        return [OUT_OF_RANGE]
    if len(readings) == 0:
        return [NO_READINGS]
    if two_clash(readings):
        return [CLASHING]
    lower = told_bound(lower_bound(readings, numbers[1]))
    return [0] + lower + told_bound(upper_bound(readings, numbers[1]))


ANSWERS = {
    0: answer_lot, 1: answer_point, 2: answer_unpoint, 3: answer_points, 4: answer_fit,
    5: answer_blocks, 6: answer_sums, 7: answer_squares, 8: answer_trial, 9: answer_value,
    10: answer_dose, 11: answer_step, 12: answer_truth,
}

# how many whole numbers stand behind a call's own number, ahead of its row if it has one
WIDTHS = {0: 2, 1: 5, 2: 2, 3: 1, 4: 1, 5: 1, 6: 1, 7: 1, 8: 1, 9: 3, 10: 3, 11: 2, 12: 2}


def call_end(calls, start):
    """The place behind the call that begins at start."""
    end = start + 1 + WIDTHS[calls[start]]
    if calls[start] == CALL_TRIAL:
        end = end + 1 + calls[end]
    return end


def lot_refusal(desk, number, lot_number):
    """The refusal of the lot that a call names, or None."""
    if not 0 <= lot_number <= LAST_LOT:
        return NO_LOT_NUMBER
    if number != CALL_LOT and lot_number not in desk.lots:
        return NOT_THERE
    return None


def answer_call(desk, number, numbers):
    refusal = lot_refusal(desk, number, numbers[0])
    if refusal is not None:
        return [refusal]
    answer = ANSWERS[number]
    return answer(desk, numbers)


def answers(calls):
    """The answers of all calls, each behind how many numbers it has."""
    desk = Desk()
    answered = []
    start = 0
    while start < len(calls):
        end = call_end(calls, start)
        answer = answer_call(desk, calls[start], calls[start + 1:end])
        answered.append(len(answer))
        answered.extend(answer)
        start = end
    return answered
