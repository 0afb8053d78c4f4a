"""The calls that tell a lot's curve, its blocks, sums and squares."""

from risingcurves.curve import Curve
from risingcurves.curve import block_height
from risingcurves.curve import never_falls
from risingcurves.curve import running_sums
from risingcurves.curve import square_sum
from risingcurves.fraction import whole
from risingcurves.lots import is_response
from risingcurves.refusals import NO_READINGS
from risingcurves.refusals import OUT_OF_RANGE
from risingcurves.telling import told


def answer_fit(desk, numbers):
    readings = desk.lots[numbers[0]].readings
    if len(readings) == 0:
        return [NO_READINGS]
    curve = Curve(readings)
    answer = [0, len(curve.doses)]
    for dose, height in zip(curve.doses, curve.heights):
        answer.extend([dose] + told(height))
    return answer


def answer_blocks(desk, numbers):
    readings = desk.lots[numbers[0]].readings
    if len(readings) == 0:
        return [NO_READINGS]
    blocks = Curve(readings).blocks
    answer = [0, len(blocks)]
    for block in blocks:
        answer.extend([block.first, block.last, block.size, block.weight] + told(block_height(block)))
    return answer


def answer_sums(desk, numbers):
    readings = desk.lots[numbers[0]].readings
    if len(readings) == 0:
        return [NO_READINGS]
    sums = running_sums(Curve(readings))
    answer = [0, len(sums)]
    for running in sums:
        answer.extend(told(running))
    return answer


def answer_squares(desk, numbers):
    readings = desk.lots[numbers[0]].readings
    if len(readings) == 0:
        return [NO_READINGS]
    curve = Curve(readings)
    return told(square_sum(readings, curve.doses, curve.heights))


def answer_trial(desk, numbers):
    readings = desk.lots[numbers[0]].readings
    if len(readings) == 0:
        return [NO_READINGS]
    # numbers[1] is how many values there are: they stand behind it
    tried = numbers[2:]
    doses = Curve(readings).doses
    if len(tried) != len(doses) or not all([is_response(number) for number in tried]):
        return [OUT_OF_RANGE]
    squares = square_sum(readings, doses, [whole(number) for number in tried])
    return [squares.top, 1 if never_falls(tried) else 0]


CURVE_ANSWERS = {4: answer_fit, 5: answer_blocks, 6: answer_sums, 7: answer_squares, 8: answer_trial}


def answer_curve_call(desk, number, numbers):
    answer = CURVE_ANSWERS[number]
    return answer(desk, numbers)
