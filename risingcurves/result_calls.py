"""The calls that let time pass, tell results, show them, and tell which would be told otherwise now."""

from risingcurves.controls import shift_refusal
from risingcurves.lots import is_response
from risingcurves.lots import is_time
from risingcurves.refusals import FULL
from risingcurves.refusals import NOT_GOOD_NOW
from risingcurves.refusals import NO_READINGS
from risingcurves.refusals import NO_SUCH_RESULT
from risingcurves.refusals import NO_SUCH_STEP
from risingcurves.refusals import OUT_OF_RANGE
from risingcurves.refusals import TOO_LATE
from risingcurves.results import MOST_RESULTS
from risingcurves.results import Result
from risingcurves.results import Standing
from risingcurves.results import changed_results
from risingcurves.results import told_result

MOST_STEP = 1000000000


def answer_tick(desk, numbers):
    if not 1 <= numbers[0] <= MOST_STEP:
        return [NO_SUCH_STEP]
    if not is_time(desk.now + numbers[0]):
        return [TOO_LATE]
    desk.now = desk.now + numbers[0]
    return [0]


def read_refusal(desk, lot, standing, off):
    """Why a response that is in its range can't be read, or None."""
    if standing.curve is None:
        return NO_READINGS
    if off == 1:
        refusal = shift_refusal(standing.curve, lot.controls)
        if refusal is not None:
            return refusal
    if desk.now > lot.good_until:
        return NOT_GOOD_NOW
    if len(desk.results) >= MOST_RESULTS:
        return FULL
    return None


def answer_read(desk, numbers):
    lot = desk.lots[numbers[0]]
    response = numbers[1]
    off = numbers[2]
    if not is_response(response) or not 0 <= off <= 1:
        return [OUT_OF_RANGE]
    standing = Standing(lot)
    refusal = read_refusal(desk, lot, standing, off)
    if refusal is not None:
        return [refusal]
    doses = told_result(standing, response, off)
    desk.results.append(Result(desk.now, numbers[0], response, off, doses))
    return [len(desk.results) - 1] + doses


def answer_shown(desk, numbers):
    if not 0 <= numbers[0] < len(desk.results):
        return [NO_SUCH_RESULT]
    result = desk.results[numbers[0]]
    return [result.time, result.lot_number, result.response, result.off] + result.doses


def answer_changed(desk, numbers):
    changed = changed_results(desk.lots, desk.results)
    return [0, len(changed)] + changed


RESULT_ANSWERS = {19: answer_tick, 20: answer_read, 21: answer_shown, 22: answer_changed}


def answer_result_call(desk, number, numbers):
    answer = RESULT_ANSWERS[number]
    return answer(desk, numbers)
