"""The calls that tell what a rising truth can be, and which readings leave none."""

from risingcurves.lots import is_dose
from risingcurves.refusals import CLASHING
from risingcurves.refusals import NO_READINGS
from risingcurves.refusals import NO_SUCH_DOSE
from risingcurves.refusals import OUT_OF_RANGE
from risingcurves.telling import told_bound
from risingcurves.truth import first_clash
from risingcurves.truth import first_reaching
from risingcurves.truth import last_keeping
from risingcurves.truth import lower_bound
from risingcurves.truth import upper_bound

# a response and a bound together are at most so far from 0
MOST_TRUTH = 2000000


def answer_truth(desk, numbers):
    readings = desk.lots[numbers[0]].readings
    if not is_dose(numbers[1]):
        return [OUT_OF_RANGE]
    if len(readings) == 0:
        return [NO_READINGS]
    if first_clash(readings) is not None:
        return [CLASHING]
    lower = told_bound(lower_bound(readings, numbers[1]))
    return [0] + lower + told_bound(upper_bound(readings, numbers[1]))


def answer_clash(desk, numbers):
    readings = desk.lots[numbers[0]].readings
    if len(readings) == 0:
        return [NO_READINGS]
    pair = first_clash(readings)
    if pair is None:
        return [0]
    return [1] + pair


def answer_range(desk, numbers):
    readings = desk.lots[numbers[0]].readings
    low = numbers[1]
    high = numbers[2]
    if not -MOST_TRUTH <= low <= high <= MOST_TRUTH:
        return [OUT_OF_RANGE]
    if len(readings) == 0:
        return [NO_READINGS]
    if first_clash(readings) is not None:
        return [CLASHING]
    first = first_reaching(readings, low)
    last = last_keeping(readings, high)
    if last < first:
        return [NO_SUCH_DOSE]
    return [first, last]


TRUTH_ANSWERS = {12: answer_truth, 13: answer_clash, 14: answer_range}


def answer_truth_call(desk, number, numbers):
    answer = TRUTH_ANSWERS[number]
    return answer(desk, numbers)
