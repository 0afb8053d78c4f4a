"""risingcurves.desk.answers: one list of whole numbers in, one out."""

import unittest

from risingcurves.desk import answers
from tests.helper import (
    BLOCKS, DOSE, FIT, LOT, POINT, POINTS, READINGS, SQUARES, STEP, SUMS, TRIAL, TRUTH, UNPOINT, VALUE,
    stocked, trial)


def flat(calls):
    return [number for call in calls for number in call]


ALL_CALLS = stocked(READINGS, 2) + [
    [POINTS, 2], [FIT, 2], [BLOCKS, 2], [SUMS, 2], [SQUARES, 2], trial(2, [1, 2, 3, 4]), trial(2, []),
    [VALUE, 2, 15, 1], [DOSE, 2, 5, 1], [STEP, 2, 11], [TRUTH, 2, 11], [UNPOINT, 2, 0], [FIT, 0], [LOT, 2, 0],
    [FIT, 2]]


class Interface(unittest.TestCase):
    def test_one_answer_behind_another_with_its_count(self):
        calls = [
            LOT, 0, 9, POINT, 0, 5, -1, 2, 3, POINT, 0, 5, 0, 1, 3, FIT, 0, SQUARES, 0, TRIAL, 0, 1, -1,
            VALUE, 0, 4, 1, DOSE, 0, 0, 1, DOSE, 0, -9, 1, TRUTH, 0, 6, POINTS, 1, POINTS, 0, UNPOINT, 0, 0]
        self.assertEqual(answers(calls), [
            1, 0,
            1, 0,
            1, 1,
            5, 0, 1, 5, -2, 3,
            2, 2, 3,
            2, 1, 1,
            1, -6,
            1, 2,
            1, 1,
            5, 0, 1, -3, 0, 0,
            1, -2,
            10, 0, 2, 5, -1, 2, 3, 5, 0, 1, 3,
            1, 1])

    def test_any_call_may_come_first(self):
        for call in ([POINT, 0, 1, 1, 1, 1], [FIT, 0], trial(0, [1, 2]), [TRUTH, 0, 1]):
            self.assertEqual(answers(call), [1, -2], call)

    def test_a_refused_trial_is_passed_over_whole(self):
        calls = trial(0, [LOT, 0, 5]) + trial(7, [3] * 60) + [LOT, 0, 5] + trial(0, []) + [POINTS, 0]
        self.assertEqual(answers(calls), [1, -2, 1, -1, 1, 0, 1, -5, 2, 0, 0])

    def test_the_list_handed_in_stays_as_it_was(self):
        calls = flat(ALL_CALLS)
        before = list(calls)
        answers(calls)
        self.assertEqual(calls, before)

    def test_the_list_handed_in_is_not_changed_for_a_while_either(self):
        class Watched(list):
            def refuse(self, *args, **kwargs):
                raise AssertionError("changed")

            __setitem__ = __delitem__ = __iadd__ = __imul__ = refuse
            append = extend = insert = pop = remove = clear = reverse = sort = refuse

        self.assertEqual(answers(Watched(flat(ALL_CALLS))), answers(flat(ALL_CALLS)))

    def test_the_same_list_twice(self):
        calls = flat(ALL_CALLS)
        first = answers(calls)
        self.assertEqual(answers(calls), first)
        self.assertEqual(answers([FIT, 2]), [1, -2])
        self.assertEqual(answers(calls), first)

    def test_what_is_given_back_is_the_callers(self):
        calls = flat(ALL_CALLS)
        first = answers(calls)
        kept = list(first)
        first.clear()
        self.assertEqual(answers(calls), kept)

    def test_a_list_of_plain_whole_numbers_comes_back(self):
        given = answers(flat(ALL_CALLS))
        self.assertIs(type(given), list)
        self.assertEqual({type(number) for number in given}, {int})

    def test_only_refusals_begin_below_0(self):
        readings = [(1, -5, 1, 0), (2, -7, 1, 0)]
        calls = stocked(readings) + [
            [FIT, 0], [BLOCKS, 0], [SUMS, 0], [SQUARES, 0], trial(0, [-9, -8]), [VALUE, 0, 1, 1], [DOSE, 0, -6, 1],
            [STEP, 0, 1]]
        given = answers(flat(calls))
        place = 0
        while place < len(given):
            self.assertGreaterEqual(given[place + 1], 0)
            place += 1 + given[place]

    def test_400_calls_on_40_readings(self):
        calls = stocked([(k, 40 - k, 1 + k, 0) for k in range(40)])
        calls += [trial(0, [k] * 40) for k in range(300)]
        calls += [[FIT, 0]] * (400 - len(calls))
        given = answers(flat(calls))
        self.assertEqual(given[-123:-120], [122, 0, 40])


if __name__ == "__main__":
    unittest.main()
