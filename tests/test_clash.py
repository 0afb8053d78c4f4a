"""Call 13: clash."""

import unittest

from tests.helper import CLASH, LOT, POINTS, READINGS, TRUTH, TURN, UNPOINT, Numbers, ask, ask_of, stocked


class Clash(unittest.TestCase):
    def of(self, readings):
        return ask_of(readings, [CLASH, 0])

    def test_none(self):
        self.assertEqual(self.of([(10, 5, 1, 2), (20, 5, 1, 0), (30, 7, 1, 5)]), [0])
        self.assertEqual(self.of([(10, 5, 1, 0), (20, 6, 1, 0)]), [0])
        self.assertEqual(self.of([(20, 6, 1, 0), (10, 5, 1, 0)]), [0])

    def test_one_reading_does_not_clash_with_itself(self):
        self.assertEqual(self.of([(7, -9, 1, 0)]), [0])
        self.assertEqual(self.of([(7, -9, 1, 0)] * 3), [0])

    def test_ordinary(self):
        # 10 at 20 is reading 1: 5 at 30, 4 at 20 and 9 at 40 are less
        self.assertEqual(self.of(READINGS), [1, 1, 2])

    def test_the_other_may_have_been_told_ahead(self):
        self.assertEqual(self.of([(10, 6, 1, 0), (20, 5, 1, 0)]), [1, 0, 1])
        self.assertEqual(self.of([(20, 5, 1, 0), (10, 6, 1, 0)]), [1, 1, 0])

    def test_the_least_j_of_the_least_i(self):
        # 1 clashes with 0 and with 2
        self.assertEqual(self.of([(30, 0, 1, 0), (10, 5, 1, 0), (20, 4, 1, 0), (5, 1, 1, 3)]), [1, 1, 0])

    def test_the_least_i_goes_ahead_of_the_least_j(self):
        # 1 clashes with 0; 0 clashes with 3 alone
        self.assertEqual(self.of([(10, 5, 1, 0), (1, 9, 1, 0), (40, 9, 1, 0), (50, 4, 1, 0)]), [1, 0, 3])

    def test_two_readings_at_one_dose(self):
        # from 0 to 4, and from 5 to 11: the one is the one that is too great
        self.assertEqual(self.of([(7, 2, 1, 2), (7, 8, 1, 3)]), [1, 1, 0])
        self.assertEqual(self.of([(7, 8, 1, 3), (7, 2, 1, 2)]), [1, 0, 1])
        self.assertEqual(self.of([(7, 2, 1, 2), (7, 8, 1, 4)]), [0])

    def test_bounds_that_just_touch(self):
        self.assertEqual(self.of([(10, 9, 1, 2), (20, 5, 1, 2)]), [0])
        self.assertEqual(self.of([(10, 9, 1, 2), (20, 5, 1, 1)]), [1, 0, 1])
        self.assertEqual(self.of([(10, 9, 1, 1), (20, 5, 1, 2)]), [1, 0, 1])

    def test_a_dose_just_ahead_and_just_behind(self):
        self.assertEqual(self.of([(10, 9, 1, 0), (9, 5, 1, 0)]), [0])
        self.assertEqual(self.of([(10, 9, 1, 0), (10, 5, 1, 0)]), [1, 0, 1])
        self.assertEqual(self.of([(10, 9, 1, 0), (11, 5, 1, 0)]), [1, 0, 1])

    def test_the_last_two_of_40(self):
        wide = [(k, 0, 1, 100) for k in range(38)]
        self.assertEqual(self.of(wide + [(50, 6, 1, 0), (60, 5, 1, 0)]), [1, 38, 39])
        self.assertEqual(self.of(wide + [(60, 5, 1, 0), (50, 6, 1, 0)]), [1, 39, 38])

    def test_the_weight_does_not_matter(self):
        self.assertEqual(self.of([(20, 5, 1, 0), (10, 6, 1000, 0)]), [1, 1, 0])
        self.assertEqual(self.of([(20, 5, 1000, 0), (10, 6, 1, 0)]), [1, 1, 0])

    def test_edges_of_all_ranges(self):
        self.assertEqual(self.of([(0, 1000000, 1, 1000000), (1000000, -1000000, 1, 1000000)]), [0])
        self.assertEqual(self.of([(0, 1000000, 1, 1000000), (1000000, -1000000, 1, 999999)]), [1, 0, 1])

    def test_numbers_move_up_when_one_went(self):
        told = ask(stocked([(1, 0, 1, 0), (20, 5, 1, 0), (10, 6, 1, 0)]) + [[CLASH, 0], [UNPOINT, 0, 0], [CLASH, 0]])
        self.assertEqual(told[-3:], [[1, 2, 1], [2], [1, 1, 0]])

    def test_no_readings(self):
        self.assertEqual(self.of([]), [-5])
        told = ask(stocked(READINGS) + [[LOT, 1, 0], [CLASH, 1], [CLASH, 2], [CLASH, 4]])
        self.assertEqual(told[-3:], [[-5], [-2], [-1]])

    def test_nothing_is_changed(self):
        self.assertEqual(ask(stocked(READINGS) + [[CLASH, 0], [POINTS, 0]])[-1], ask_of(READINGS, [POINTS, 0]))

    def test_a_turn_keeps_it(self):
        # 10 +- 2 and 3 +- 4 as well as 35 +- 6 and 14 +- 12
        told = ask(stocked([(1, 10, 1, 2), (2, 3, 1, 4)]) + [[CLASH, 0], [TURN, 0, 3, 5], [CLASH, 0]])
        self.assertEqual(told[-3:], [[1, 0, 1], [0], [1, 0, 1]])


class ManyLots(unittest.TestCase):
    def test_the_least_of_all_pairs(self):
        numbers = Numbers(13)
        kinds = {0: 0, 1: 0, 2: 0}
        for trial in range(400):
            size = numbers.pick(1, 8)
            readings = [(numbers.pick(0, 5), numbers.pick(-6, 6), 1, numbers.pick(0, 5)) for k in range(size)]
            pairs = [[1, i, j] for i in range(size) for j in range(size)
                     if readings[i][0] <= readings[j][0]
                     and readings[j][1] + readings[j][3] < readings[i][1] - readings[i][3]]
            told = ask(stocked(readings) + [[CLASH, 0], [TRUTH, 0, 3]])
            self.assertEqual(told[-2], min(pairs) if pairs else [0], readings)
            self.assertEqual(told[-1] == [-8], bool(pairs), readings)
            kinds[0 if not pairs else 1 if min(pairs)[1] < min(pairs)[2] else 2] += 1
        self.assertGreater(min(kinds.values()), 30)


if __name__ == "__main__":
    unittest.main()
