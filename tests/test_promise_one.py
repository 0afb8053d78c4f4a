"""Promise 1: no rising values have a lesser sum of squares than the curve's; what sums are."""

import unittest
from fractions import Fraction
from itertools import combinations_with_replacement
from math import gcd

from tests.helper import BLOCKS, FIT, SQUARES, SUMS, Numbers, ask, made_up_lots, pairs, stocked, trial
from tests.model import best_values


class Told:
    """What a lot with these readings tells of its curve."""

    def __init__(self, readings):
        fit, blocks, sums, squares = ask(stocked(readings) + [[FIT, 0], [BLOCKS, 0], [SUMS, 0], [SQUARES, 0]])[-4:]
        self.heads = [fit[0], blocks[0], sums[0]]
        self.counts = [fit[1], sums[1]]
        self.doses = fit[2::3]
        self.fractions = list(zip(fit[3::3], fit[4::3])) + list(zip(sums[2::2], sums[3::2])) + [tuple(squares)]
        self.values = [Fraction(top, bottom) for top, bottom in zip(fit[3::3], fit[4::3])]
        self.sums = pairs(sums[2:])
        self.squares = Fraction(squares[0], squares[1])
        self.blocks = [blocks[k:k + 6] for k in range(2, len(blocks), 6)]
        self.block_count = blocks[1]
        self.fractions += [(block[4], block[5]) for block in self.blocks]


def squares_of(readings, doses, values):
    at = dict(zip(doses, values))
    return sum(weight * (response - at[dose]) ** 2 for dose, response, weight, bound in readings)


def rising_values_near(values, numbers):
    """Rising values to try: the curve's with its steps moved, split or made equal, and others."""
    mean = sum(values) / len(values)
    small = Fraction(1, 1000)
    tried = [[mean] * len(values), [values[0]] * len(values), [values[-1]] * len(values)]
    tried += [[value + off for value in values] for off in (small, -small, 1, -1)]
    for k in range(len(values)):
        tried.append(values[:k] + [value + small for value in values[k:]])
        tried.append([value - small for value in values[:k + 1]] + values[k + 1:])
        tried.append(values[:k] + [max(value, values[k] + small) for value in values[k:]])
        tried.append([min(value, values[k] - small) for value in values[:k + 1]] + values[k + 1:])
        tried.append([value + small * (place - k) for place, value in enumerate(values)])
    tried.append(sorted(value + numbers.pick(-5, 5) for value in values))
    return tried


class PromiseOne(unittest.TestCase):
    @classmethod
    def setUpClass(cls):
        cls.lots = [(readings, Told(readings)) for readings in made_up_lots()]

    def test_the_doses_rise_each_once(self):
        for readings, told in self.lots:
            self.assertEqual(told.doses, sorted({reading[0] for reading in readings}))
            self.assertEqual(told.counts, [len(told.doses)] * 2)
            self.assertEqual(told.heads, [0, 0, 0])

    def test_values_never_fall(self):
        for readings, told in self.lots:
            self.assertEqual(told.values, sorted(told.values), readings)

    def test_sums_are_never_below_0_and_0_at_the_end_of_each_block(self):
        for readings, told in self.lots:
            self.assertEqual(len(told.sums), len(told.doses))
            self.assertGreaterEqual(min(told.sums), 0, readings)
            at = dict(zip(told.doses, told.sums))
            for block in told.blocks:
                self.assertEqual(at[block[1]], 0, readings)

    def test_sums_are_what_they_stand_for(self):
        for readings, told in self.lots:
            at = dict(zip(told.doses, told.values))
            for dose, running in zip(told.doses, told.sums):
                self.assertEqual(running, sum(w * (r - at[d]) for d, r, w, b in readings if d <= dose), readings)

    def test_blocks_rise_and_are_as_long_as_can_be(self):
        for readings, told in self.lots:
            self.assertEqual(told.block_count, len(told.blocks))
            heights = [Fraction(block[4], block[5]) for block in told.blocks]
            self.assertEqual(heights, sorted(set(heights)), readings)
            self.assertEqual(len(heights), len(set(told.values)), readings)

    def test_blocks_hold_all_doses_in_order(self):
        for readings, told in self.lots:
            place = 0
            for first, last, size, weight, top, bottom in told.blocks:
                self.assertEqual([told.doses[place], told.doses[place + size - 1]], [first, last], readings)
                self.assertEqual(set(told.values[place:place + size]), {Fraction(top, bottom)}, readings)
                inside = [reading for reading in readings if first <= reading[0] <= last]
                self.assertEqual(weight, sum(w for d, r, w, b in inside), readings)
                self.assertEqual(Fraction(top, bottom), Fraction(sum(w * r for d, r, w, b in inside), weight))
                place += size
            self.assertEqual(place, len(told.doses), readings)

    def test_fractions_are_in_lowest_terms(self):
        for readings, told in self.lots:
            for top, bottom in told.fractions:
                self.assertGreater(bottom, 0, readings)
                self.assertEqual(gcd(top, bottom), 1, readings)

    def test_squares_are_what_they_stand_for(self):
        for readings, told in self.lots:
            self.assertEqual(told.squares, squares_of(readings, told.doses, told.values), readings)

    def test_the_curve_is_the_one_found_by_another_way(self):
        for readings, told in self.lots:
            self.assertEqual(told.values, best_values(readings, told.doses), readings)

    def test_no_rising_values_near_it_are_better(self):
        numbers = Numbers(77)
        for readings, told in self.lots[::3]:
            for values in rising_values_near(told.values, numbers):
                self.assertEqual(values, sorted(values))
                tried = squares_of(readings, told.doses, values)
                if values == told.values:
                    self.assertEqual(tried, told.squares)
                else:
                    self.assertGreater(tried, told.squares, readings)

    def test_no_whole_rising_values_by_trial_are_better(self):
        numbers = Numbers(3)
        for readings, told in self.lots:
            spread = max(abs(reading[1]) for reading in readings)
            rows = [[round(value) for value in told.values], [int(value // 1) for value in told.values]]
            for k in range(5):
                rows.append(sorted(numbers.pick(-spread, spread) for dose in told.doses))
            answers = ask(stocked(readings) + [trial(0, row) for row in rows])[-len(rows):]
            for row, answer in zip(rows, answers):
                self.assertEqual(answer, [squares_of(readings, told.doses, row), 1])
                self.assertGreaterEqual(answer[0], told.squares, readings)

    def test_of_all_small_rising_values_none_is_better(self):
        small = [readings for readings, told in self.lots if max(abs(r) for d, r, w, b in readings) <= 4]
        small = [readings for readings in small if len({d for d, r, w, b in readings}) <= 4][:25]
        self.assertGreater(len(small), 10)
        for readings in small:
            told = Told(readings)
            rows = [list(row) for row in combinations_with_replacement(range(-4, 5), len(told.doses))]
            for begin in range(0, len(rows), 300):
                part = rows[begin:begin + 300]
                for answer in ask(stocked(readings) + [trial(0, row) for row in part])[-len(part):]:
                    self.assertGreaterEqual(answer[0], told.squares, readings)
                    self.assertEqual(answer[1], 1)


if __name__ == "__main__":
    unittest.main()
