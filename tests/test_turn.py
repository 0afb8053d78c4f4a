"""Call 23: turn."""

import unittest
from fractions import Fraction

from tests.helper import (
    CLASH, CONTROL, DOSE, FIT, LEAST_WORD, LOT, LOTS, MOST_WORD, POINT, POINTS, READINGS, SHIFT, SQUARES, TURN, UNPOINT,
    VALUE, ask, ask_of, controlled, made_up_lots, pairs, stocked)


class Turn(unittest.TestCase):
    def turned(self, readings, a, b):
        """The answer, and the readings behind it."""
        told = ask(stocked(readings) + [[TURN, 0, a, b], [POINTS, 0]])
        return told[-2], [tuple(told[-1][k:k + 4]) for k in range(2, len(told[-1]), 4)]

    def test_ordinary(self):
        readings = [(10, 4, 1, 2), (5, -3, 7, 0), (10, 0, 1000, 5)]
        self.assertEqual(self.turned(readings, 3, 5), ([0], [(10, 17, 1, 6), (5, -4, 7, 0), (10, 5, 1000, 15)]))
        self.assertEqual(self.turned(readings, 2, -9), ([0], [(10, -1, 1, 4), (5, -15, 7, 0), (10, -9, 1000, 10)]))

    def test_nothing_by_1_and_0(self):
        self.assertEqual(self.turned(READINGS, 1, 0), ([0], READINGS))

    def test_there_and_back(self):
        told = ask(stocked(READINGS) + [[TURN, 0, 1, 77], [TURN, 0, 1, -77], [POINTS, 0]])
        self.assertEqual(told[-1], ask_of(READINGS, [POINTS, 0]))

    def test_numbers_of_readings_as_they_were(self):
        told = ask(stocked(READINGS) + [[TURN, 0, 2, 1], [UNPOINT, 0, 1], [POINT, 0, 1, 1, 1, 1], [POINTS, 0]])
        self.assertEqual(told[-3:], [[4], [4], [0, 5] + [
            10, 9, 1, 0, 30, 11, 3, 0, 20, 9, 1, 0, 40, 19, 1, 0, 1, 1, 1, 1]])

    def test_controls_too(self):
        # the line is 10 at 10 and 20 at 20; the control 5 at 15 becomes 25, and then 33
        calls = [[LOT, 0, 5]] + controlled([(15, 5, 2)]) + [
            [TURN, 0, 3, 10], [POINT, 0, 10, 10, 1, 0], [POINT, 0, 20, 20, 1, 0], [SHIFT, 0]]
        self.assertEqual(ask(calls)[-1], [0, 10, 1])
        self.assertEqual(ask(calls + [[TURN, 0, 1, 8], [SHIFT, 0], [LOTS]])[-3:], [
            [0], [0, 10, 1], [0, 0, 1, 5, 2, 1] + [0] * 12])
        # a control told behind it is not turned: 25, and 13
        self.assertEqual(ask(calls + [[CONTROL, 0, 15, 13, 2], [SHIFT, 0]])[-1], [0, 4, 1])

    def test_a_lot_without_readings(self):
        self.assertEqual(self.turned([], 1000, 1000000), ([0], []))
        self.assertEqual(self.turned([], 1001, 0), ([-3], []))

    def test_other_lots_stay(self):
        told = ask(stocked(READINGS, 0) + stocked(READINGS, 1) + [[TURN, 0, 2, 3], [POINTS, 1]])
        self.assertEqual(told[-1], ask_of(READINGS, [POINTS, 0]))

    def test_edges_of_a_and_b(self):
        for a, b, let_in in (
                (1, 0, True), (1000, 0, True), (0, 0, False), (1001, 0, False), (-1, 0, False),
                (1, 1000000, True), (1, -1000000, True), (1, 1000001, False), (1, -1000001, False),
                (1000, -1000000, True), (1000, 1000001, False), (1001, 1000000, False),
                (LEAST_WORD, 0, False), (MOST_WORD, 0, False), (1, LEAST_WORD, False), (1, MOST_WORD, False)):
            answer, readings = self.turned([(4, 0, 9, 0)], a, b)
            self.assertEqual(answer, [0] if let_in else [-3], (a, b))
            self.assertEqual(readings, [(4, b if let_in else 0, 9, 0)], (a, b))

    def test_a_response_just_in_and_just_out(self):
        for response, a, b, answer in (
                (1000, 1000, 0, [0]), (1001, 1000, 0, [-4]), (-1000, 1000, 0, [0]), (-1001, 1000, 0, [-4]),
                (999999, 1, 1, [0]), (999999, 1, 2, [-4]), (-999999, 1, -1, [0]), (-999999, 1, -2, [-4]),
                (500000, 3, -500000, [0]), (500000, 3, -499999, [-4]),
                (-500000, 3, 500000, [0]), (-500000, 3, 499999, [-4])):
            told, readings = self.turned([(4, response, 9, 0)], a, b)
            self.assertEqual(told, answer, (response, a, b))
            kept = response if answer == [-4] else a * response + b
            self.assertEqual(readings, [(4, kept, 9, 0)], (response, a, b))

    def test_a_bound_just_in_and_just_out(self):
        for bound, a, answer in ((1000, 1000, [0]), (1001, 1000, [-4]), (1000000, 1, [0]), (1000000, 2, [-4]),
                                 (500000, 2, [0]), (500001, 2, [-4])):
            for b in (0, 1000000, -1000000):
                told, readings = self.turned([(4, 0, 9, bound)], a, b)
                self.assertEqual(told, answer, (bound, a, b))
                kept = (4, 0, 9, bound) if answer == [-4] else (4, b, 9, a * bound)
                self.assertEqual(readings, [kept], (bound, a, b))

    def test_a_control_just_in_and_just_out(self):
        for response, a, b, answer in (
                (1000, 1000, 0, [0]), (1001, 1000, 0, [-4]), (-1000, 1000, 0, [0]), (-1001, 1000, 0, [-4]),
                (999999, 1, 1, [0]), (999999, 1, 2, [-4]), (-999999, 1, -1, [0]), (-999999, 1, -2, [-4])):
            calls = stocked([(4, 0, 9, 1)]) + controlled([(4, response, 1)])
            calls += [[TURN, 0, a, b], [SHIFT, 0], [POINTS, 0]]
            turned = answer == [0]
            self.assertEqual(ask(calls)[-3:], [
                answer, [0, a * response if turned else response, 1],
                [0, 1, 4, b if turned else 0, 9, a if turned else 1]], (response, a, b))
            # without readings a control is held too
            self.assertEqual(ask([[LOT, 0, 5]] + controlled([(4, response, 1)]) + [[TURN, 0, a, b]])[-1], answer)

    def test_one_of_many_out_of_range_and_nothing_is_turned(self):
        for place in range(3):
            for wrong in ((4, 1001, 1, 0), (4, -1001, 1, 0), (4, 0, 1, 1001)):
                readings = [(1, 1, 1, 1), (2, 2, 2, 2)]
                readings.insert(place, wrong)
                self.assertEqual(self.turned(readings, 1000, 0), ([-4], readings))
        controls = [(1, 5, 1), (1, 1001, 1), (1, 5, 1)]
        calls = stocked([(1, 0, 1, 1)]) + controlled(controls)
        calls += [[SHIFT, 0], [TURN, 0, 1000, 0], [SHIFT, 0], [POINTS, 0]]
        self.assertEqual(ask(calls)[-4:], [[0, 337, 1], [-4], [0, 337, 1], [0, 1, 1, 0, 1, 1]])

    def test_a_wrong_reading_leaves_the_controls(self):
        calls = stocked([(1, 1001, 1, 0)]) + controlled([(1, 7, 1)]) + [[SHIFT, 0], [TURN, 0, 1000, 0], [SHIFT, 0]]
        self.assertEqual(ask(calls)[-3:], [[0, -994, 1], [-4], [0, -994, 1]])

    def test_out_of_range_goes_ahead_of_turned_out_of_range(self):
        readings = [(4, 1000000, 9, 1000000)]
        self.assertEqual(self.turned(readings, 1001, 0), ([-3], readings))
        self.assertEqual(self.turned(readings, 2, 1000001), ([-3], readings))
        self.assertEqual(self.turned(readings, 2, 1000000), ([-4], readings))

    def test_the_lot_goes_ahead(self):
        told = ask(stocked(READINGS) + [[TURN, 4, 1, 0], [TURN, -1, 0, 0], [TURN, 1, 1, 0], [TURN, 1, 0, 0]])
        self.assertEqual(told[-4:], [[-1], [-1], [-2], [-2]])

    def test_the_curve_is_turned_with_it(self):
        for readings in made_up_lots()[::9]:
            if max(abs(reading[1]) for reading in readings) > 100:
                continue
            asked = [[FIT, 0], [SQUARES, 0], [CLASH, 0], [DOSE, 0, 3, 2], [VALUE, 0, readings[0][0], 1]]
            before = ask(stocked(readings) + asked)[-5:]
            behind = ask(stocked(readings) + [[TURN, 0, 7, -4]] + asked[:3]
                         + [[DOSE, 0, 7 * 3 - 4 * 2, 2], asked[4]])[-5:]
            self.assertEqual(behind[0][2::3], before[0][2::3])
            values = [Fraction(before[0][k], before[0][k + 1]) for k in range(3, len(before[0]), 3)]
            turned = [Fraction(behind[0][k], behind[0][k + 1]) for k in range(3, len(behind[0]), 3)]
            self.assertEqual(turned, [7 * value - 4 for value in values])
            self.assertEqual(pairs(behind[1]), [49 * pairs(before[1])[0]])
            self.assertEqual(behind[2:4], before[2:4])
            self.assertEqual(pairs(behind[4][1:]), [7 * pairs(before[4][1:])[0] - 4])


if __name__ == "__main__":
    unittest.main()
