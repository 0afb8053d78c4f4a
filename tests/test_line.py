"""Calls 9 to 11: value, dose, step."""

import unittest
from fractions import Fraction

from tests.helper import (
    DOSE, FIT, LEAST_WORD, MOST_WORD, READINGS, STEP, VALUE, Numbers, ask, ask_of, made_up_lots, pairs, stocked)

ONE_DOSE = [(7, 1, 1, 0), (7, 2, 1, 0)]
BELOW_0 = [(0, -5, 1, 0), (3, -3, 1, 0)]

# a / b: the first and the last that are let in, and those just beyond
FRACTION_EDGES = [
    (0, 1, True), (0, 1000, True), (0, 0, False), (0, -1, False), (0, 1001, False),
    (1000000, 1, True), (1000001, 1, False), (-1000000, 1, True), (-1000001, 1, False),
    (1000000000, 1000, True), (1000000001, 1000, False), (-1000000000, 1000, True), (-1000000001, 1000, False),
    (0, LEAST_WORD, False), (0, MOST_WORD, False), (LEAST_WORD, 1000, False), (MOST_WORD, 1000, False),
    (LEAST_WORD, LEAST_WORD, False), (MOST_WORD, MOST_WORD, False), (-5, -1, False)]


class Value(unittest.TestCase):
    def at(self, readings, a, b):
        return ask_of(readings, [VALUE, 0, a, b])

    def test_at_a_dose(self):
        self.assertEqual(self.at(READINGS, 20, 1), [0, 13, 2])
        self.assertEqual(self.at(READINGS, 30, 1), [0, 13, 2])

    def test_at_the_first_and_the_last_dose(self):
        self.assertEqual(self.at(READINGS, 10, 1), [0, 4, 1])
        self.assertEqual(self.at(READINGS, 40, 1), [0, 9, 1])

    def test_between_two_doses(self):
        # 4 + 5/2 * 1/2, and 13/2 + 5/2 * 1/10
        self.assertEqual(self.at(READINGS, 15, 1), [0, 21, 4])
        self.assertEqual(self.at(READINGS, 31, 1), [0, 27, 4])

    def test_on_a_flat_part(self):
        self.assertEqual(self.at(READINGS, 77, 3), [0, 13, 2])

    def test_not_in_lowest_terms(self):
        self.assertEqual(self.at(READINGS, 30, 2), [0, 21, 4])
        self.assertEqual(self.at(READINGS, 20000, 1000), [0, 13, 2])
        self.assertEqual(self.at(READINGS, 400, 10), [0, 9, 1])

    def test_beyond_the_doses(self):
        for a, b in ((9, 1), (9999, 1000), (40001, 1000), (41, 1), (0, 1), (-10, 1), (1000000, 1), (-1000000, 1)):
            self.assertEqual(self.at(READINGS, a, b), [-6], (a, b))

    def test_one_dose_alone(self):
        self.assertEqual(self.at(ONE_DOSE, 7, 1), [0, 3, 2])
        self.assertEqual(self.at(ONE_DOSE, 14, 2), [0, 3, 2])
        for a, b in ((6, 1), (8, 1), (6999, 1000), (7001, 1000)):
            self.assertEqual(self.at(ONE_DOSE, a, b), [-6], (a, b))

    def test_below_0_and_0(self):
        self.assertEqual(self.at(BELOW_0, 0, 1), [0, -5, 1])
        self.assertEqual(self.at(BELOW_0, 1, 1), [0, -13, 3])
        self.assertEqual(self.at([(0, -1, 1, 0), (2, 1, 1, 0)], 1, 1), [0, 0, 1])

    def test_edges_of_a_and_b(self):
        for a, b, let_in in FRACTION_EDGES:
            answer = self.at([(0, 3, 1, 0), (1000000, 3, 1, 0)], a, b)
            expected = [-3] if not let_in else [-6] if a < 0 else [0, 3, 1]
            self.assertEqual(answer, expected, (a, b))

    def test_out_of_range_goes_ahead_of_no_readings(self):
        self.assertEqual(self.at([], 1, 0), [-3])
        self.assertEqual(self.at([], 1000001, 1), [-3])
        self.assertEqual(self.at([], -1, 1), [-5])

    def test_against_the_straight_way(self):
        numbers = Numbers(5)
        for readings in made_up_lots()[::5]:
            told = ask_of(readings, [FIT, 0])[2:]
            doses = told[0::3]
            values = [Fraction(told[k + 1], told[k + 2]) for k in range(0, len(told), 3)]
            for k in range(len(doses) - 1):
                b = numbers.pick(1, 1000)
                a = numbers.pick(doses[k] * b, doses[k + 1] * b)
                share = (Fraction(a, b) - doses[k]) / (doses[k + 1] - doses[k])
                line = values[k] * (1 - share) + values[k + 1] * share
                self.assertEqual(self.at(readings, a, b), [0, line.numerator, line.denominator])


class Dose(unittest.TestCase):
    def of(self, readings, a, b):
        return ask_of(readings, [DOSE, 0, a, b])

    def test_below_and_above(self):
        for a, b in ((3, 1), (3999, 1000), (0, 1), (-1000000, 1)):
            self.assertEqual(self.of(READINGS, a, b), [1], (a, b))
        for a, b in ((10, 1), (9001, 1000), (1000000, 1)):
            self.assertEqual(self.of(READINGS, a, b), [2], (a, b))

    def test_at_a_flat_part(self):
        self.assertEqual(self.of(READINGS, 13, 2), [0, 20, 1, 30, 1])

    def test_at_a_rising_part(self):
        # 10 + 10 * 1 / (5/2), 30 + 10 * (1/2) / (5/2), 30 + 10 * (5/6) / (5/2)
        self.assertEqual(self.of(READINGS, 5, 1), [0, 14, 1, 14, 1])
        self.assertEqual(self.of(READINGS, 7, 1), [0, 32, 1, 32, 1])
        self.assertEqual(self.of(READINGS, 22, 3), [0, 100, 3, 100, 3])

    def test_at_the_first_and_the_last_value(self):
        self.assertEqual(self.of(READINGS, 4, 1), [0, 10, 1, 10, 1])
        self.assertEqual(self.of(READINGS, 9, 1), [0, 40, 1, 40, 1])

    def test_flat_at_the_first_and_the_last_value(self):
        readings = [(0, 1, 1, 0), (5, 1, 1, 0), (6, 2, 1, 0), (9, 3, 1, 0), (11, 3, 1, 0), (20, 3, 1, 0)]
        self.assertEqual(self.of(readings, 1, 1), [0, 0, 1, 5, 1])
        self.assertEqual(self.of(readings, 2, 1), [0, 6, 1, 6, 1])
        self.assertEqual(self.of(readings, 3, 1), [0, 9, 1, 20, 1])

    def test_all_flat(self):
        readings = [(0, 3, 1, 0), (4, 2, 1, 0), (9, 1, 1, 0)]
        self.assertEqual(self.of(readings, 2, 1), [0, 0, 1, 9, 1])
        self.assertEqual(self.of(readings, 1999, 1000), [1])
        self.assertEqual(self.of(readings, 2001, 1000), [2])

    def test_one_dose_alone(self):
        self.assertEqual(self.of(ONE_DOSE, 3, 2), [0, 7, 1, 7, 1])
        self.assertEqual(self.of(ONE_DOSE, 1, 1), [1])
        self.assertEqual(self.of(ONE_DOSE, 2, 1), [2])

    def test_not_in_lowest_terms(self):
        self.assertEqual(self.of(READINGS, 6500, 1000), [0, 20, 1, 30, 1])
        self.assertEqual(self.of(READINGS, 10, 2), [0, 14, 1, 14, 1])

    def test_below_0_and_the_dose_0(self):
        self.assertEqual(self.of(BELOW_0, -5, 1), [0, 0, 1, 0, 1])
        self.assertEqual(self.of(BELOW_0, -9, 2), [0, 3, 4, 3, 4])
        self.assertEqual(self.of(BELOW_0, -6, 1), [1])
        self.assertEqual(self.of(BELOW_0, -2, 1), [2])

    def test_edges_of_a_and_b(self):
        for a, b, let_in in FRACTION_EDGES:
            answer = self.of([(0, 0, 1, 0)], a, b)
            expected = [-3] if not let_in else [1] if a < 0 else [2] if a > 0 else [0, 0, 1, 0, 1]
            self.assertEqual(answer, expected, (a, b))

    def test_out_of_range_goes_ahead_of_no_readings(self):
        self.assertEqual(self.of([], 1, 1001), [-3])
        self.assertEqual(self.of([], -1000001, 1), [-3])
        self.assertEqual(self.of([], 1, 1), [-5])

    def test_the_line_there_is_the_response(self):
        readings = [(0, -7, 1, 0), (3, 2, 2, 0), (4, 1, 3, 0), (9, 30, 1, 0), (11, 31, 1, 0)]
        for a in range(-14, 63):
            told = self.of(readings, a, 2)
            for dose in pairs(told[1:]):
                line = self.at_line(readings, dose)
                self.assertEqual(line, Fraction(a, 2))

    def at_line(self, readings, dose):
        told = ask_of(readings, [VALUE, 0, dose.numerator, dose.denominator])
        return Fraction(told[1], told[2])


class Step(unittest.TestCase):
    def at(self, readings, x):
        return ask_of(readings, [STEP, 0, x])

    def test_between_two_doses(self):
        self.assertEqual(self.at(READINGS, 11), [0, 1, 4, 1, 1, 13, 2])
        self.assertEqual(self.at(READINGS, 25), [0, 1, 13, 2, 1, 13, 2])
        self.assertEqual(self.at(READINGS, 39), [0, 1, 13, 2, 1, 9, 1])

    def test_at_a_dose(self):
        self.assertEqual(self.at(READINGS, 10), [0, 1, 4, 1, 1, 4, 1])
        self.assertEqual(self.at(READINGS, 20), [0, 1, 13, 2, 1, 13, 2])
        self.assertEqual(self.at(READINGS, 40), [0, 1, 9, 1, 1, 9, 1])

    def test_none_on_either_side(self):
        for x in (0, 9):
            self.assertEqual(self.at(READINGS, x), [0, 0, 0, 0, 1, 4, 1], x)
        for x in (41, 1000000):
            self.assertEqual(self.at(READINGS, x), [0, 1, 9, 1, 0, 0, 0], x)

    def test_one_dose_alone(self):
        self.assertEqual(self.at(ONE_DOSE, 6), [0, 0, 0, 0, 1, 3, 2])
        self.assertEqual(self.at(ONE_DOSE, 7), [0, 1, 3, 2, 1, 3, 2])
        self.assertEqual(self.at(ONE_DOSE, 8), [0, 1, 3, 2, 0, 0, 0])

    def test_below_0_and_0(self):
        self.assertEqual(self.at([(0, -5, 1, 0), (3, 0, 1, 0)], 2), [0, 1, -5, 1, 1, 0, 1])

    def test_edges_of_x(self):
        readings = [(0, 1, 1, 0), (1000000, 2, 1, 0)]
        self.assertEqual(self.at(readings, 0), [0, 1, 1, 1, 1, 1, 1])
        self.assertEqual(self.at(readings, 1000000), [0, 1, 2, 1, 1, 2, 1])
        for x in (-1, 1000001, LEAST_WORD, MOST_WORD):
            self.assertEqual(self.at(readings, x), [-3], x)

    def test_out_of_range_goes_ahead_of_no_readings(self):
        self.assertEqual(self.at([], -1), [-3])
        self.assertEqual(self.at([], 0), [-5])


class NothingChanges(unittest.TestCase):
    def test_asking_and_refusing_change_nothing(self):
        asked = [[VALUE, 0, 15, 1], [VALUE, 0, 1, 0], [VALUE, 0, 9, 1], [DOSE, 0, 5, 1], [DOSE, 0, 5, 0],
                 [STEP, 0, 5], [STEP, 0, -1]]
        told = ask(stocked(READINGS) + asked + asked + [[FIT, 0]])
        behind = len(READINGS) + 1
        self.assertEqual(told[behind:behind + 7], told[behind + 7:behind + 14])
        self.assertEqual(told[-1], ask_of(READINGS, [FIT, 0]))


if __name__ == "__main__":
    unittest.main()
