"""Call 12: truth."""

import unittest

from tests.helper import LEAST_WORD, MOST_WORD, POINTS, TRUTH, UNPOINT, ask, ask_of, stocked

# from 3 to 7 at 10, from 5 to 5 at 20, from 2 to 12 at 30
THREE = [(10, 5, 1, 2), (20, 5, 1, 0), (30, 7, 1, 5)]


class Truth(unittest.TestCase):
    def at(self, readings, x):
        return ask_of(readings, [TRUTH, 0, x])

    def test_at_a_dose(self):
        self.assertEqual(self.at(THREE, 10), [0, 1, 3, 1, 5])
        self.assertEqual(self.at(THREE, 20), [0, 1, 5, 1, 5])
        self.assertEqual(self.at(THREE, 30), [0, 1, 5, 1, 12])

    def test_between_two_doses(self):
        self.assertEqual(self.at(THREE, 11), [0, 1, 3, 1, 5])
        self.assertEqual(self.at(THREE, 19), [0, 1, 3, 1, 5])
        self.assertEqual(self.at(THREE, 21), [0, 1, 5, 1, 12])

    def test_none_on_either_side(self):
        for x in (0, 9):
            self.assertEqual(self.at(THREE, x), [0, 0, 0, 1, 5], x)
        for x in (31, 1000000):
            self.assertEqual(self.at(THREE, x), [0, 1, 5, 0, 0], x)

    def test_one_reading(self):
        self.assertEqual(self.at([(4, -3, 9, 5)], 3), [0, 0, 0, 1, 2])
        self.assertEqual(self.at([(4, -3, 9, 5)], 4), [0, 1, -8, 1, 2])
        self.assertEqual(self.at([(4, -3, 9, 5)], 5), [0, 1, -8, 0, 0])

    def test_bounds_of_0_and_below(self):
        self.assertEqual(self.at([(4, 0, 1, 0)], 4), [0, 1, 0, 1, 0])
        self.assertEqual(self.at([(4, -9, 1, 1)], 4), [0, 1, -10, 1, -8])

    def test_widest_bounds(self):
        readings = [(0, -1000000, 1, 1000000), (1000000, 1000000, 1, 1000000)]
        self.assertEqual(self.at(readings, 500), [0, 1, -2000000, 1, 2000000])

    def test_two_readings_at_one_dose(self):
        # from 0 to 4 and from 3 to 9
        self.assertEqual(self.at([(7, 2, 1, 2), (7, 6, 1, 3)], 7), [0, 1, 3, 1, 4])

    def test_readings_that_clash(self):
        # at least 6 at 10, at most 5 at 20
        for readings in ([(10, 6, 1, 0), (20, 5, 1, 0)], [(20, 5, 1, 0), (10, 6, 1, 0)]):
            for x in (0, 10, 15, 20, 1000000):
                self.assertEqual(self.at(readings, x), [-8], x)

    def test_readings_that_just_do_not_clash(self):
        for readings in ([(10, 6, 1, 1), (20, 5, 1, 0)], [(20, 5, 1, 1), (10, 6, 1, 0)]):
            self.assertGreaterEqual(self.at(readings, 15)[0], 0)
        self.assertEqual(self.at([(10, 9, 1, 2), (20, 5, 1, 2)], 15), [0, 1, 7, 1, 7])
        self.assertEqual(self.at([(10, 9, 1, 2), (20, 5, 1, 1)], 15), [-8])

    def test_a_rise_is_no_clash(self):
        self.assertEqual(self.at([(10, 5, 1, 0), (20, 6, 1, 0)], 15), [0, 1, 5, 1, 6])

    def test_clash_at_one_dose(self):
        for readings in ([(7, 2, 1, 2), (7, 8, 1, 3)], [(7, 8, 1, 3), (7, 2, 1, 2)]):
            self.assertEqual(self.at(readings, 7), [-8])

    def test_readings_that_clash_far_apart_in_the_row(self):
        between = [(10 + k, 0, 1, 50) for k in range(1, 39)]
        self.assertEqual(self.at([(10, 1, 1, 0)] + between + [(60, 0, 1, 0)], 5), [-8])
        self.assertEqual(self.at([(10, 1, 1, 1)] + between + [(60, 0, 1, 0)], 5), [0, 0, 0, 1, 0])

    def test_no_clash_any_more_when_one_went(self):
        told = ask(stocked([(10, 6, 1, 0), (20, 5, 1, 0)]) + [[TRUTH, 0, 10], [UNPOINT, 0, 0], [TRUTH, 0, 10]])
        self.assertEqual(told[-3:], [[-8], [1], [0, 0, 0, 1, 5]])

    def test_the_weight_does_not_matter(self):
        self.assertEqual(self.at([(d, r, 1000, b) for d, r, w, b in THREE], 19), [0, 1, 3, 1, 5])

    def test_edges_of_x(self):
        readings = [(0, 1, 1, 0), (1000000, 2, 1, 0)]
        self.assertEqual(self.at(readings, 0), [0, 1, 1, 1, 1])
        self.assertEqual(self.at(readings, 1000000), [0, 1, 2, 1, 2])
        for x in (-1, 1000001, LEAST_WORD, MOST_WORD):
            self.assertEqual(self.at(readings, x), [-3], x)

    def test_the_order_of_refusals(self):
        clashing = [(10, 6, 1, 0), (20, 5, 1, 0)]
        self.assertEqual(self.at(clashing, -1), [-3])
        self.assertEqual(self.at(clashing, 1000001), [-3])
        self.assertEqual(self.at([], 1000001), [-3])
        self.assertEqual(self.at([], 1000000), [-5])

    def test_a_refusal_changes_nothing(self):
        told = ask(stocked(THREE) + [[TRUTH, 0, -1], [POINTS, 0], [TRUTH, 0, 11]])
        self.assertEqual(told[-2:], [ask_of(THREE, [POINTS, 0]), [0, 1, 3, 1, 5]])


class AgainstAllTruths(unittest.TestCase):
    """Small readings, and every rising row of small numbers that is within them."""

    def rows(self, length, low, high):
        if length == 0:
            return [[]]
        return [[first] + rest for first in range(low, high + 1) for rest in self.rows(length - 1, first, high)]

    def test_the_bounds_are_reached_and_never_passed(self):
        lots = [
            [(1, 2, 1, 1), (3, 1, 1, 1)], [(1, 3, 1, 1), (3, 1, 1, 1)], [(1, 3, 1, 0), (3, 1, 1, 1)],
            [(2, 2, 1, 1), (2, 3, 1, 1), (0, 1, 1, 2)], [(0, 0, 1, 1), (1, 3, 1, 2), (4, 2, 1, 1), (3, 2, 1, 2)]]
        rows = self.rows(5, -3, 6)
        for readings in lots:
            truths = [row for row in rows if all(abs(row[d] - r) <= b for d, r, w, b in readings)]
            for x in range(5):
                told = ask_of(readings, [TRUTH, 0, x])
                if not truths:
                    self.assertEqual(told, [-8])
                    continue
                # where there is no bound the rows end at -3 or 6, which no reading reaches
                lower = told[2] if told[1] else -3
                upper = told[4] if told[3] else 6
                self.assertEqual(sorted({row[x] for row in truths}), list(range(lower, upper + 1)), (readings, x))


if __name__ == "__main__":
    unittest.main()
