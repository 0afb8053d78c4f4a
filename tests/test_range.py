"""Call 14: range."""

import unittest

from tests.helper import LEAST_WORD, MOST_WORD, POINTS, RANGE, TRUTH, UNPOINT, Numbers, ask, ask_of, stocked

# from 3 to 7 at 10, from 5 to 5 at 20, from 2 to 12 at 30
THREE = [(10, 5, 1, 2), (20, 5, 1, 0), (30, 7, 1, 5)]
LAST = 1000000


class Range(unittest.TestCase):
    def of(self, readings, lo, hi):
        return ask_of(readings, [RANGE, 0, lo, hi])

    def test_both_ends(self):
        self.assertEqual(self.of(THREE, 5, 5), [0, LAST])
        self.assertEqual(self.of(THREE, 3, 12), [0, LAST])
        self.assertEqual(self.of(THREE, -2000000, 2000000), [0, LAST])

    def test_up_to_a_dose(self):
        # 3 is the least from 10 on, 5 from 20 on
        self.assertEqual(self.of(THREE, 0, 2), [0, 9])
        self.assertEqual(self.of(THREE, 2, 2), [0, 9])
        self.assertEqual(self.of(THREE, 3, 3), [0, 19])
        self.assertEqual(self.of(THREE, 4, 4), [0, 19])
        self.assertEqual(self.of(THREE, -2000000, -2000000), [0, 9])

    def test_from_a_dose_on(self):
        # 5 is the greatest up to 20, 12 up to 30
        self.assertEqual(self.of(THREE, 6, 8), [21, LAST])
        self.assertEqual(self.of(THREE, 12, 12), [21, LAST])
        self.assertEqual(self.of(THREE, 13, 13), [31, LAST])
        self.assertEqual(self.of(THREE, 2000000, 2000000), [31, LAST])

    def test_between_two_readings(self):
        readings = [(10, 3, 1, 0), (20, 9, 1, 0)]
        self.assertEqual(self.of(readings, 5, 6), [11, 19])
        self.assertEqual(self.of(readings, 4, 8), [11, 19])
        self.assertEqual(self.of(readings, 3, 8), [0, 19])
        self.assertEqual(self.of(readings, 4, 9), [11, LAST])

    def test_one_dose_alone(self):
        self.assertEqual(self.of([(10, 3, 1, 0), (12, 9, 1, 0)], 5, 6), [11, 11])
        self.assertEqual(self.of([(0, 3, 1, 0), (2, 9, 1, 0)], 5, 5), [1, 1])
        self.assertEqual(self.of([(999999, 3, 1, 0)], 4, 4), [LAST, LAST])
        self.assertEqual(self.of([(1, 3, 1, 0)], 2, 2), [0, 0])

    def test_no_such_dose(self):
        self.assertEqual(self.of([(10, 3, 1, 0), (11, 9, 1, 0)], 5, 6), [-9])
        self.assertEqual(self.of([(10, 3, 1, 0), (11, 9, 1, 0)], 4, 8), [-9])
        self.assertEqual(self.of([(10, 3, 1, 0), (11, 9, 1, 0)], 3, 8), [0, 10])
        self.assertEqual(self.of([(10, 3, 1, 0), (11, 9, 1, 0)], 4, 9), [11, LAST])

    def test_a_reading_at_dose_0(self):
        readings = [(0, 5, 1, 1)]
        self.assertEqual(self.of(readings, 0, 3), [-9])
        self.assertEqual(self.of(readings, 0, 4), [0, LAST])
        self.assertEqual(self.of(readings, 6, 9), [0, LAST])
        self.assertEqual(self.of(readings, 7, 9), [1, LAST])

    def test_a_reading_at_dose_1000000(self):
        readings = [(LAST, 5, 1, 1)]
        self.assertEqual(self.of(readings, 7, 9), [-9])
        self.assertEqual(self.of(readings, 6, 9), [0, LAST])
        self.assertEqual(self.of(readings, 0, 4), [0, LAST])
        self.assertEqual(self.of(readings, 0, 3), [0, LAST - 1])

    def test_readings_at_both_ends(self):
        readings = [(0, 5, 1, 0), (LAST, 7, 1, 0)]
        self.assertEqual(self.of(readings, 6, 6), [1, LAST - 1])
        self.assertEqual(self.of(readings, 5, 5), [0, LAST - 1])
        self.assertEqual(self.of(readings, 7, 7), [1, LAST])
        self.assertEqual(self.of(readings, 4, 4), [-9])
        self.assertEqual(self.of(readings, 8, 8), [-9])

    def test_the_tightest_of_several_readings(self):
        readings = [(10, 3, 1, 0), (14, 3, 1, 4), (12, 3, 1, 0), (30, 9, 1, 0), (25, 9, 1, 3), (28, 9, 1, 0)]
        self.assertEqual(self.of(readings, 4, 5), [13, 24])
        self.assertEqual(self.of(readings, 6, 8), [13, 27])
        self.assertEqual(self.of(readings, 8, 8), [15, 27])

    def test_widest_bounds(self):
        readings = [(5, 1000000, 1, 1000000), (3, -1000000, 1, 1000000)]
        self.assertEqual(self.of(readings, 2000000, 2000000), [4, LAST])
        self.assertEqual(self.of(readings, -2000000, -2000000), [0, 4])

    def test_edges_of_lo_and_hi(self):
        for lo, hi, let_in in (
                (-2000000, 2000000, True), (-2000000, -2000000, True), (2000000, 2000000, True), (0, 0, True),
                (-2000001, 0, False), (0, 2000001, False), (-2000001, -2000001, False), (2000001, 2000001, False),
                (1, 0, False), (-5, -6, False), (2000000, -2000000, False), (2000001, 2000000, False),
                (LEAST_WORD, 0, False), (0, MOST_WORD, False), (LEAST_WORD, MOST_WORD, False),
                (MOST_WORD, LEAST_WORD, False), (LEAST_WORD, LEAST_WORD, False), (MOST_WORD, MOST_WORD, False)):
            self.assertEqual(self.of([(9, 0, 1, 1000000)], lo, hi)[0] == -3, not let_in, (lo, hi))
            self.assertEqual(self.of([], lo, hi), [-5] if let_in else [-3], (lo, hi))

    def test_the_order_of_refusals(self):
        clashing = [(0, 6, 1, 0), (LAST, 5, 1, 0)]
        self.assertEqual(self.of([], 1, 0), [-3])
        self.assertEqual(self.of(clashing, 1, 0), [-3])
        self.assertEqual(self.of(clashing, 0, 2000001), [-3])
        self.assertEqual(self.of([], 0, 1), [-5])
        # were there no clash, no dose would have 0
        self.assertEqual(self.of(clashing, 0, 0), [-8])
        self.assertEqual(self.of([(0, 6, 1, 0)], 0, 0), [-9])

    def test_the_lot_goes_ahead(self):
        told = ask(stocked(THREE) + [[RANGE, 1, 1, 0], [RANGE, 4, 1, 0], [RANGE, 1, 0, 0], [RANGE, -1, 0, 0]])
        self.assertEqual(told[-4:], [[-2], [-1], [-2], [-1]])

    def test_clashing_just_not(self):
        self.assertEqual(self.of([(10, 9, 1, 2), (20, 5, 1, 2)], 7, 7), [0, LAST])
        self.assertEqual(self.of([(10, 9, 1, 2), (20, 5, 1, 1)], 7, 7), [-8])

    def test_nothing_is_changed(self):
        told = ask(stocked(THREE) + [[RANGE, 0, 6, 8], [RANGE, 0, 8, 6], [POINTS, 0], [RANGE, 0, 6, 8]])
        self.assertEqual(told[-4:], [[21, LAST], [-3], ask_of(THREE, [POINTS, 0]), [21, LAST]])

    def test_it_is_told_of_what_is_left(self):
        told = ask(stocked(THREE) + [[UNPOINT, 0, 1], [RANGE, 0, 6, 8], [RANGE, 0, 4, 4]])
        self.assertEqual(told[-2:], [[0, LAST], [0, LAST]])


class AgainstTruth(unittest.TestCase):
    """With few doses: held against what truth tells at every one of them."""

    def fits(self, told, lo, hi):
        return (told[1] == 0 or told[2] <= hi) and (told[3] == 0 or told[4] >= lo)

    def test_every_dose(self):
        numbers = Numbers(14)
        refused = 0
        for trial in range(60):
            center = [numbers.pick(-3, 5) + k for k in range(5)]
            readings = [(dose, numbers.pick(-1, 1) + center[dose // 3], 1, numbers.pick(0, 3))
                        for dose in [numbers.pick(0, 14) for k in range(numbers.pick(1, 5))]]
            doses = list(range(17)) + [LAST - 1, LAST]
            truths = ask(stocked(readings) + [[TRUTH, 0, x] for x in doses])[-len(doses):]
            asked = [(lo, hi) for lo in range(-8, 14) for hi in range(lo, 14)]
            ranges = ask(stocked(readings) + [[RANGE, 0, lo, hi] for lo, hi in asked])[-len(asked):]
            for (lo, hi), told in zip(asked, ranges):
                if truths[0] == [-8]:
                    self.assertEqual(told, [-8])
                    continue
                fitting = [x for x, truth in zip(doses, truths) if self.fits(truth, lo, hi)]
                self.assertEqual(told, [fitting[0], fitting[-1]] if fitting else [-9], (readings, lo, hi))
                # all doses between the two are such too
                self.assertEqual(fitting, [x for x in doses if fitting and fitting[0] <= x <= fitting[-1]])
                refused += 1 if not fitting else 0
        self.assertGreater(refused, 30)


if __name__ == "__main__":
    unittest.main()
