"""Calls 4 to 8: fit, blocks, sums, squares, trial, with answers worked out by hand."""

import unittest

from tests.helper import (
    BLOCKS, FIT, LEAST_WORD, MOST_WORD, POINTS, READINGS, SQUARES, SUMS, ask, ask_of, stocked, trial)

# at 1: -3; at 2 and 3: (2 * -1 - 4) / 3 = -2; at 5: 0
BELOW_0 = [(1, -3, 1, 0), (2, -1, 2, 0), (3, -4, 1, 0), (5, 0, 4, 0)]


class Fit(unittest.TestCase):
    def test_two_doses_pooled(self):
        # at 20: (2 * 10 + 4) / 3 = 8, at 30: 5; both together: (24 + 15) / 6
        self.assertEqual(ask_of(READINGS, [FIT, 0]), [0, 4, 10, 4, 1, 20, 13, 2, 30, 13, 2, 40, 9, 1])

    def test_0_and_below(self):
        self.assertEqual(ask_of(BELOW_0, [FIT, 0]), [0, 4, 1, -3, 1, 2, -2, 1, 3, -2, 1, 5, 0, 1])

    def test_a_fraction_below_0(self):
        self.assertEqual(ask_of([(4, -1, 2, 0), (4, 0, 4, 0)], [FIT, 0]), [0, 1, 4, -1, 3])

    def test_one_reading(self):
        self.assertEqual(ask_of([(7, -9, 1000, 3)], [FIT, 0]), [0, 1, 7, -9, 1])

    def test_a_late_fall_pools_all_that_is_ahead(self):
        # 1, 2, 3, -10 are four of mean -1
        readings = [(1, 1, 1, 0), (2, 2, 1, 0), (3, 3, 1, 0), (4, -10, 1, 0)]
        self.assertEqual(ask_of(readings, [FIT, 0]), [0, 4, 1, -1, 1, 2, -1, 1, 3, -1, 1, 4, -1, 1])

    def test_the_order_told_does_not_matter(self):
        self.assertEqual(ask_of(READINGS[::-1], [FIT, 0]), ask_of(READINGS, [FIT, 0]))

    def test_the_bound_does_not_matter(self):
        wide = [(dose, response, weight, 50) for dose, response, weight, bound in READINGS]
        self.assertEqual(ask_of(wide, [FIT, 0]), ask_of(READINGS, [FIT, 0]))

    def test_edges_of_all_ranges(self):
        readings = [(0, 1000000, 1000, 0), (1000000, -1000000, 1, 0)]
        # (1000 - 1) / 1001 million
        self.assertEqual(ask_of(readings, [FIT, 0]), [0, 2, 0, 999000000, 1001, 1000000, 999000000, 1001])


class Blocks(unittest.TestCase):
    def test_ordinary(self):
        self.assertEqual(ask_of(READINGS, [BLOCKS, 0]), [
            0, 3, 10, 10, 1, 1, 4, 1, 20, 30, 2, 6, 13, 2, 40, 40, 1, 1, 9, 1])

    def test_0_and_below(self):
        self.assertEqual(ask_of(BELOW_0, [BLOCKS, 0]), [
            0, 3, 1, 1, 1, 1, -3, 1, 2, 3, 2, 3, -2, 1, 5, 5, 1, 4, 0, 1])

    def test_equal_values_are_one_block(self):
        readings = [(1, 5, 1, 0), (2, 5, 2, 0), (8, 5, 3, 0)]
        self.assertEqual(ask_of(readings, [BLOCKS, 0]), [0, 1, 1, 8, 3, 6, 5, 1])

    def test_a_pooled_block_joins_an_equal_one(self):
        # 2 and 0 pool to 1, as is the value ahead and the one behind
        readings = [(1, 1, 1, 0), (2, 2, 1, 0), (3, 0, 1, 0), (4, 1, 5, 0)]
        self.assertEqual(ask_of(readings, [BLOCKS, 0]), [0, 1, 1, 4, 4, 8, 1, 1])

    def test_one_reading(self):
        self.assertEqual(ask_of([(7, -9, 1000, 3)], [BLOCKS, 0]), [0, 1, 7, 7, 1, 1000, -9, 1])

    def test_a_dose_told_again_counts_once(self):
        self.assertEqual(ask_of([(7, 1, 2, 0)] * 3, [BLOCKS, 0]), [0, 1, 7, 7, 1, 6, 1, 1])


class Sums(unittest.TestCase):
    def test_ordinary(self):
        # at 20: 2 * (10 - 13/2) + (4 - 13/2) = 9/2, at 30: 3 * (5 - 13/2) more
        self.assertEqual(ask_of(READINGS, [SUMS, 0]), [0, 4, 0, 1, 9, 2, 0, 1, 0, 1])

    def test_below_0(self):
        self.assertEqual(ask_of(BELOW_0, [SUMS, 0]), [0, 4, 0, 1, 2, 1, 0, 1, 0, 1])

    def test_one_reading(self):
        self.assertEqual(ask_of([(7, -9, 1000, 3)], [SUMS, 0]), [0, 1, 0, 1])

    def test_a_long_block(self):
        # 3, 2, 1, 0 of value 3/2: 3/2, 2, 3/2, 0
        readings = [(k, 3 - k, 1, 0) for k in range(4)]
        self.assertEqual(ask_of(readings, [SUMS, 0]), [0, 4, 3, 2, 2, 1, 3, 2, 0, 1])


class Squares(unittest.TestCase):
    def test_ordinary(self):
        # 2 * 49/4 + 25/4 + 3 * 9/4
        self.assertEqual(ask_of(READINGS, [SQUARES, 0]), [75, 2])

    def test_a_whole_number(self):
        # 2 * 1 + 4
        self.assertEqual(ask_of(BELOW_0, [SQUARES, 0]), [6, 1])

    def test_0(self):
        self.assertEqual(ask_of([(1, 2, 3, 0), (2, 3, 5, 0)], [SQUARES, 0]), [0, 1])

    def test_one_dose_again_and_again(self):
        # 1, 2, 4 of mean 7/3: 16/9 + 1/9 + 25/9
        self.assertEqual(ask_of([(5, 1, 1, 0), (5, 2, 1, 0), (5, 4, 1, 0)], [SQUARES, 0]), [14, 3])

    def test_large(self):
        readings = [(0, 1000000, 1000, 0), (1, -1000000, 1000, 0)]
        self.assertEqual(ask_of(readings, [SQUARES, 0]), [2 * 10 ** 15, 1])


class Trial(unittest.TestCase):
    def test_rising(self):
        # 2 * 16 + 4 + 3 * 4
        self.assertEqual(ask_of(READINGS, trial(0, [4, 6, 7, 9])), [48, 1])

    def test_falling(self):
        self.assertEqual(ask_of(READINGS, trial(0, [9, 6, 7, 9])), [73, 0])
        self.assertEqual(ask_of(READINGS, trial(0, [4, 6, 7, 6])), [57, 0])

    def test_a_fall_can_have_a_lesser_sum(self):
        # the values 4, 8, 5, 9: 2 * 4 + 16
        self.assertEqual(ask_of(READINGS, trial(0, [4, 8, 5, 9])), [24, 0])

    def test_equal_values_never_fall(self):
        # 4, 2 * 16 + 4, 3 * 1, 9
        self.assertEqual(ask_of(READINGS, trial(0, [6, 6, 6, 6])), [4 + 32 + 4 + 3 + 9, 1])

    def test_one_value(self):
        self.assertEqual(ask_of([(7, -9, 1000, 3)], trial(0, [-9])), [0, 1])
        self.assertEqual(ask_of([(7, -9, 1000, 3)], trial(0, [-7])), [4000, 1])

    def test_too_few_and_too_many(self):
        for values in ([], [4], [4, 6, 7], [4, 6, 7, 9, 9], [9] * 60):
            self.assertEqual(ask_of(READINGS, trial(0, values)), [-3], values)

    def test_as_many_as_doses_not_as_readings(self):
        self.assertEqual(ask_of(READINGS, trial(0, [4, 6, 6, 7, 9])), [-3])

    def test_40_values(self):
        readings = [(k, k, 1, 0) for k in range(40)]
        self.assertEqual(ask_of(readings, trial(0, list(range(40)))), [0, 1])
        self.assertEqual(ask_of(readings, trial(0, list(range(41)))), [-3])

    def test_edges_of_the_values(self):
        for place in range(2):
            for number, refused in ((-1000000, False), (1000000, False), (-1000001, True), (1000001, True),
                                    (LEAST_WORD, True), (MOST_WORD, True)):
                values = [0, 0]
                values[place] = number
                answer = ask_of([(1, 0, 1, 0), (2, 0, 1, 0)], trial(0, values))
                rising = 1 if values[0] <= values[1] else 0
                self.assertEqual(answer, [-3] if refused else [number * number, rising], values)

    def test_no_readings_goes_ahead_of_wrong_values(self):
        for values in ([], [1], [1000001]):
            self.assertEqual(ask_of([], trial(0, values)), [-5], values)

    def test_a_trial_changes_nothing(self):
        calls = stocked(READINGS) + [[FIT, 0], [POINTS, 0]]
        tried = stocked(READINGS) + [trial(0, [1, 2, 3, 4]), trial(0, [1]), [FIT, 0], [POINTS, 0]]
        self.assertEqual(ask(tried)[-2:], ask(calls)[-2:])


if __name__ == "__main__":
    unittest.main()
