"""The calls that make and change lots, their readings and their controls, and that tell what is there."""

from risingcurves.lots import LOT_COUNT
from risingcurves.lots import MOST_CONTROLS
from risingcurves.lots import MOST_READINGS
from risingcurves.lots import Control
from risingcurves.lots import Lot
from risingcurves.lots import Reading
from risingcurves.lots import is_control
from risingcurves.lots import is_reading
from risingcurves.lots import is_time
from risingcurves.lots import turned_control
from risingcurves.lots import turned_reading
from risingcurves.refusals import FULL
from risingcurves.refusals import OUT_OF_RANGE
from risingcurves.refusals import TURNED_OUT_OF_RANGE

MOST_FACTOR = 1000
MOST_ADDED = 1000000


def answer_lot(desk, numbers):
    if not is_time(numbers[1]):
        return [OUT_OF_RANGE]
    desk.lots[numbers[0]] = Lot(numbers[1])
    return [0]


def answer_point(desk, numbers):
    readings = desk.lots[numbers[0]].readings
    reading = Reading(numbers[1], numbers[2], numbers[3], numbers[4])
    if not is_reading(reading):
        return [OUT_OF_RANGE]
    if len(readings) >= MOST_READINGS:
        return [FULL]
    readings.append(reading)
    return [len(readings) - 1]


def answer_unpoint(desk, numbers):
    readings = desk.lots[numbers[0]].readings
    if not 0 <= numbers[1] < len(readings):
        return [OUT_OF_RANGE]
    readings.pop(numbers[1])
    return [len(readings)]


def answer_points(desk, numbers):
    readings = desk.lots[numbers[0]].readings
    answer = [0, len(readings)]
    for reading in readings:
        answer.extend([reading.dose, reading.response, reading.weight, reading.bound])
    return answer


def answer_control(desk, numbers):
    controls = desk.lots[numbers[0]].controls
    control = Control(numbers[1], numbers[2], numbers[3])
    if not is_control(control):
        return [OUT_OF_RANGE]
    if len(controls) >= MOST_CONTROLS:
        return [FULL]
    controls.append(control)
    return [len(controls) - 1]


def answer_clear(desk, numbers):
    lot = desk.lots[numbers[0]]
    lot.controls = []
    return [0]


def answer_turn(desk, numbers):
    lot = desk.lots[numbers[0]]
    factor = numbers[1]
    added = numbers[2]
    if not 1 <= factor <= MOST_FACTOR or not -MOST_ADDED <= added <= MOST_ADDED:
        return [OUT_OF_RANGE]
    readings = [turned_reading(reading, factor, added) for reading in lot.readings]
    controls = [turned_control(control, factor, added) for control in lot.controls]
    if not all([is_reading(reading) for reading in readings]):
        return [TURNED_OUT_OF_RANGE]
    if not all([is_control(control) for control in controls]):
        return [TURNED_OUT_OF_RANGE]
    lot.readings = readings
    lot.controls = controls
    return [0]


def answer_lots(desk, numbers):
    answer = [0, desk.now]
    for number in range(LOT_COUNT):
        if number in desk.lots:
            lot = desk.lots[number]
            answer.extend([1, lot.good_until, len(lot.readings), len(lot.controls)])
        else:
            answer.extend([0, 0, 0, 0])
    return answer


LOT_ANSWERS = {
    0: answer_lot, 1: answer_point, 2: answer_unpoint, 3: answer_points, 15: answer_control, 16: answer_clear,
    23: answer_turn, 24: answer_lots,
}


def answer_lot_call(desk, number, numbers):
    answer = LOT_ANSWERS[number]
    return answer(desk, numbers)
