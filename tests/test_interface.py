"""risingcurves.desk.answers: one list of whole numbers in, one out."""

import unittest

from risingcurves.desk import answers
from tests.helper import (
    BLOCKS, CHANGED, CLASH, CLEAR, CONTROL, DOSE, FIT, GAP, LOT, LOTS, POINT, POINTS, RANGE, READ, READINGS, SHIFT,
    SHOWN, SQUARES, STEP, SUMS, TICK, TRIAL, TRUTH, TURN, UNPOINT, VALUE, flat, split, stocked, trial)

ALL_CALLS = stocked(READINGS, 2) + [
    [POINTS, 2], [FIT, 2], [BLOCKS, 2], [SUMS, 2], [SQUARES, 2], trial(2, [1, 2, 3, 4]), trial(2, []),
    [VALUE, 2, 15, 1], [DOSE, 2, 5, 1], [STEP, 2, 11], [TRUTH, 2, 11], [CLASH, 2], [RANGE, 2, 1, 2],
    [CONTROL, 2, 15, 6, 1], [SHIFT, 2], [GAP, 2, 2], [GAP, 2, 0], [TICK, 4], [READ, 2, 5, 0], [READ, 2, 5, 1],
    [SHOWN, 1], [CHANGED], [TURN, 2, 3, 5], [CHANGED], [CLEAR, 2], [LOTS], [UNPOINT, 2, 0], [FIT, 0], [LOT, 2, 0],
    [FIT, 2], [CHANGED], [SHOWN, 0]]


class Interface(unittest.TestCase):
    def test_one_answer_behind_another_with_its_count(self):
        calls = [
            LOT, 0, 9, POINT, 0, 5, -1, 2, 3, POINT, 0, 5, 0, 1, 3, FIT, 0, SQUARES, 0, TRIAL, 0, 1, -1,
            VALUE, 0, 4, 1, DOSE, 0, 0, 1, DOSE, 0, -9, 1, TRUTH, 0, 6, POINTS, 1, POINTS, 0, UNPOINT, 0, 0]
        self.assertEqual(answers(calls), [
            1, 0,
            1, 0,
            1, 1,
            5, 0, 1, 5, -2, 3,
            2, 2, 3,
            2, 1, 1,
            1, -6,
            1, 2,
            1, 1,
            5, 0, 1, -3, 0, 0,
            1, -2,
            10, 0, 2, 5, -1, 2, 3, 5, 0, 1, 3,
            1, 1])

    def test_calls_13_to_24_one_behind_another(self):
        calls = [
            CHANGED, LOTS, LOT, 0, 9, POINT, 0, 5, -1, 2, 3, POINT, 0, 7, 4, 1, 1, CLASH, 0, RANGE, 0, 3, 4,
            CONTROL, 0, 6, 2, 3, SHIFT, 0, GAP, 0, 0, TICK, 9, READ, 0, 1, 1, READ, 0, 4, 0, SHOWN, 0, TURN, 0, 2, -1,
            CHANGED, CLEAR, 0, CHANGED, SHOWN, 1, LOTS]
        # the line goes from -1 at 5 to 4 at 7; the shift is 2 - 3/2; 1 - 1/2 is 3/2 above -1: at 5 + 2 * (3/2) / 5.
        # Turned it goes from -3 to 7, the control is 3, the shift 3 - 2: of 1 - 1 the dose is 5 + 2 * 3 / 10 once more
        self.assertEqual(answers(calls), [
            2, 0, 0,
            18, 0, 0, 0, 0, 0, 0, 0, 0, 0, 0, 0, 0, 0, 0, 0, 0, 0, 0,
            1, 0,
            1, 0,
            1, 1,
            1, 0,
            2, 6, 1000000,
            1, 0,
            3, 0, 1, 2,
            3, 0, 1, 5,
            1, 0,
            6, 0, 0, 28, 5, 28, 5,
            6, 1, 0, 7, 1, 7, 1,
            9, 9, 0, 1, 1, 0, 28, 5, 28, 5,
            1, 0,
            3, 0, 1, 1,
            1, 0,
            4, 0, 2, 0, 1,
            9, 9, 0, 4, 0, 0, 7, 1, 7, 1,
            18, 0, 9, 1, 9, 2, 0, 0, 0, 0, 0, 0, 0, 0, 0, 0, 0, 0, 0])

    def test_any_call_may_come_first(self):
        kinds = {call[0]: call for call in ALL_CALLS}
        self.assertEqual(sorted(kinds), list(range(25)))
        first = {LOT: [1, 0], TICK: [1, 0], SHOWN: [1, -1], CHANGED: [2, 0, 0], LOTS: [18] + [0] * 18}
        for number, call in kinds.items():
            self.assertEqual(answers(call), first.get(number, [1, -2]), call)

    def test_each_call_is_as_wide_as_told(self):
        # what stands behind it is answered as a call of its own
        for call in ALL_CALLS:
            given = answers(call + [LOTS] + call + [TICK, 0, CHANGED])
            self.assertEqual(len(split(given)), 5, call)
            self.assertEqual([part[:1] for part in split(given)[1::2]], [[0], [-1]], call)

    def test_a_refused_trial_is_passed_over_whole(self):
        calls = trial(0, [LOT, 0, 5]) + trial(7, [3] * 60) + [LOT, 0, 5] + trial(0, []) + [POINTS, 0]
        self.assertEqual(answers(calls), [1, -2, 1, -1, 1, 0, 1, -5, 2, 0, 0])

    def test_the_list_handed_in_stays_as_it_was(self):
        calls = flat(ALL_CALLS)
        before = list(calls)
        answers(calls)
        self.assertEqual(calls, before)

    def test_the_list_handed_in_is_not_changed_for_a_while_either(self):
        class Watched(list):
            def refuse(self, *args, **kwargs):
                raise AssertionError("changed")

            __setitem__ = __delitem__ = __iadd__ = __imul__ = refuse
            append = extend = insert = pop = remove = clear = reverse = sort = refuse

        self.assertEqual(answers(Watched(flat(ALL_CALLS))), answers(flat(ALL_CALLS)))

    def test_the_same_list_twice(self):
        calls = flat(ALL_CALLS)
        first = answers(calls)
        self.assertEqual(answers(calls), first)
        self.assertEqual(answers([FIT, 2]), [1, -2])
        self.assertEqual(answers(calls), first)

    def test_what_is_given_back_is_the_callers(self):
        calls = flat(ALL_CALLS)
        first = answers(calls)
        kept = list(first)
        first.clear()
        self.assertEqual(answers(calls), kept)

    def test_a_list_of_plain_whole_numbers_comes_back(self):
        given = answers(flat(ALL_CALLS))
        self.assertIs(type(given), list)
        self.assertEqual({type(number) for number in given}, {int})

    def test_only_refusals_begin_below_0(self):
        readings = [(1, -5, 1, 0), (2, -7, 1, 0)]
        calls = stocked(readings) + [
            [FIT, 0], [BLOCKS, 0], [SUMS, 0], [SQUARES, 0], trial(0, [-9, -8]), [VALUE, 0, 1, 1], [DOSE, 0, -6, 1],
            [STEP, 0, 1]]
        given = answers(flat(calls))
        place = 0
        while place < len(given):
            self.assertGreaterEqual(given[place + 1], 0)
            place += 1 + given[place]

    def test_400_calls_on_40_readings(self):
        calls = stocked([(k, 40 - k, 1 + k, 0) for k in range(40)])
        calls += [trial(0, [k] * 40) for k in range(300)]
        calls += [[FIT, 0]] * (400 - len(calls))
        given = answers(flat(calls))
        self.assertEqual(given[-123:-120], [122, 0, 40])


if __name__ == "__main__":
    unittest.main()
