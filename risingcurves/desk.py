"""The desk: takes a list of calls and answers them one behind another."""

from risingcurves.curve_calls import answer_curve_call
from risingcurves.line_calls import answer_line_call
from risingcurves.lot_calls import answer_lot_call
from risingcurves.lots import LOT_COUNT
from risingcurves.refusals import NOT_THERE
from risingcurves.refusals import NO_LOT_NUMBER
from risingcurves.result_calls import answer_result_call
from risingcurves.truth_calls import answer_truth_call

CALL_LOT = 0
CALL_TRIAL = 8
CALL_GAP = 18

CURVE_CALLS = (4, 5, 6, 7, 8)
LINE_CALLS = (9, 10, 11, 17, 18)
TRUTH_CALLS = (12, 13, 14)
RESULT_CALLS = (19, 20, 21, 22)

CALLS_WITHOUT_LOT = (19, 21, 22, 24)

# how many whole numbers stand behind a call's own number, ahead of its row if it has one
WIDTHS = {
    0: 2, 1: 5, 2: 2, 3: 1, 4: 1, 5: 1, 6: 1, 7: 1, 8: 1, 9: 3, 10: 3, 11: 2, 12: 2, 13: 1, 14: 3, 15: 4, 16: 1,
    17: 1, 18: 2, 19: 1, 20: 3, 21: 1, 22: 0, 23: 3, 24: 0,
}


class Desk:
    """What the calls of one list work on; it is new for each list."""

    def __init__(self):
        self.now = 0
        self.lots = {}
        self.results = []


def call_end(calls, start):
    """The place behind the call that begins at start."""
    end = start + 1 + WIDTHS[calls[start]]
    if calls[start] == CALL_TRIAL:
        end = end + 1 + calls[end]
    return end


def lots_named(number, numbers):
    """The lots' numbers that a call names, as told."""
    if number in CALLS_WITHOUT_LOT:
        return []
    if number == CALL_GAP:
        return numbers[:2]
    return numbers[:1]


def lot_refusal(desk, number, numbers):
    """The refusal of the first lot that a call names and can't have, or None."""
    for lot_number in lots_named(number, numbers):
        if not 0 <= lot_number < LOT_COUNT:
            return NO_LOT_NUMBER
        if number != CALL_LOT and lot_number not in desk.lots:
            return NOT_THERE
    return None


def answer_call(desk, number, numbers):
    refusal = lot_refusal(desk, number, numbers)
    if refusal is not None:
        return [refusal]
    if number in CURVE_CALLS:
        return answer_curve_call(desk, number, numbers)
    if number in LINE_CALLS:
        return answer_line_call(desk, number, numbers)
    if number in TRUTH_CALLS:
        return answer_truth_call(desk, number, numbers)
    if number in RESULT_CALLS:
        return answer_result_call(desk, number, numbers)
    return answer_lot_call(desk, number, numbers)


def answers(calls):
    """The answers of all calls, each behind how many numbers it has."""
    desk = Desk()
    answered = []
    start = 0
    while start < len(calls):
        end = call_end(calls, start)
        answer = answer_call(desk, calls[start], calls[start + 1:end])
        answered.append(len(answer))
        answered.extend(answer)
        start = end
    return answered
