"""Call 18: gap."""

import unittest
from fractions import Fraction

from tests.helper import GAP, LOT, POINTS, READINGS, TURN, VALUE, Numbers, ask, made_up_lots, stocked

# straight from 0 at 0 to 10 at 10
STRAIGHT = [(0, 0, 1, 0), (10, 10, 1, 0)]


class Gap(unittest.TestCase):
    def of(self, readings, others):
        """The gap of two lots; of the second to the first it is the same."""
        told = ask(stocked(readings, 1) + stocked(others, 3) + [[GAP, 1, 3], [GAP, 3, 1]])
        self.assertEqual(told[-1], told[-2])
        return told[-1]

    def test_a_lot_against_itself(self):
        for readings in (READINGS, STRAIGHT, [(7, -9, 1, 0)]):
            told = ask(stocked(readings, 2) + [[GAP, 2, 2]])
            self.assertEqual(told[-1], [0, 1, readings[0][0]])

    def test_two_lots_alike(self):
        self.assertEqual(self.of(READINGS, READINGS[::-1]), [0, 1, 10])

    def test_at_a_dose_of_one_lot_alone(self):
        # 9 against 5
        self.assertEqual(self.of(STRAIGHT, [(0, 0, 1, 0), (5, 9, 1, 0), (10, 10, 1, 0)]), [4, 1, 5])
        self.assertEqual(self.of(STRAIGHT, [(0, 0, 1, 0), (5, 1, 1, 0), (10, 10, 1, 0)]), [4, 1, 5])

    def test_a_fraction(self):
        # 0 against 1/3 and 2/3
        self.assertEqual(self.of([(0, 0, 1, 0), (3, 1, 1, 0)], [(1, 0, 1, 0), (2, 0, 1, 0)]), [2, 3, 2])
        # at 20: 13/2 against 5
        self.assertEqual(self.of(READINGS, [(10, 4, 1, 0), (20, 5, 1, 0), (25, 6, 1, 0)]), [3, 2, 20])

    def test_overlapping_in_part(self):
        # x against x - 4 from 4 to 10
        self.assertEqual(self.of(STRAIGHT, [(4, 0, 1, 0), (20, 16, 1, 0)]), [4, 1, 4])
        # x against 2 x - 8: 4 at 4, 2 at 10
        self.assertEqual(self.of(STRAIGHT, [(4, 0, 1, 0), (20, 32, 1, 0)]), [4, 1, 4])
        # x against 3 x - 12: 4 at 4, 8 at 10, which is a dose of the first alone
        self.assertEqual(self.of(STRAIGHT, [(4, 0, 1, 0), (20, 48, 1, 0)]), [8, 1, 10])

    def test_one_within_the_other(self):
        self.assertEqual(self.of(STRAIGHT, [(3, 3, 1, 0), (8, 3, 1, 0)]), [5, 1, 8])

    def test_one_dose_shared(self):
        self.assertEqual(self.of(STRAIGHT, [(10, 7, 1, 0), (20, 900, 1, 0)]), [3, 1, 10])
        self.assertEqual(self.of(STRAIGHT, [(4, 7, 1, 0)]), [3, 1, 4])
        self.assertEqual(self.of([(4, 7, 1, 0)], [(4, -7, 1, 0)]), [14, 1, 4])

    def test_none_shared(self):
        self.assertEqual(self.of(STRAIGHT, [(11, 7, 1, 0), (20, 900, 1, 0)]), [-6])
        self.assertEqual(self.of(STRAIGHT, [(11, 7, 1, 0)]), [-6])
        self.assertEqual(self.of([(4, 7, 1, 0)], [(5, 7, 1, 0)]), [-6])
        self.assertEqual(self.of([(0, 7, 1, 0)], [(1000000, 7, 1, 0)]), [-6])

    def test_doses_between_one_another(self):
        # no dose is told of both lots, but both lines are from 1 to 2
        self.assertEqual(self.of([(0, 0, 1, 0), (2, 2, 1, 0)], [(1, 5, 1, 0), (3, 5, 1, 0)]), [4, 1, 1])

    def test_the_same_gap_at_two_doses(self):
        # 5 below at 0, 5 above at 10
        self.assertEqual(self.of([(0, 0, 1, 0), (10, 0, 1, 0)], [(0, -5, 1, 0), (10, 5, 1, 0)]), [5, 1, 0])
        # at 3 and at 7
        self.assertEqual(self.of(
            STRAIGHT, [(0, 0, 1, 0), (3, 5, 1, 0), (7, 5, 1, 0), (10, 10, 1, 0)]), [2, 1, 3])
        # all the way
        self.assertEqual(self.of(STRAIGHT, [(0, 6, 1, 0), (5, 11, 1, 0), (10, 16, 1, 0)]), [6, 1, 0])

    def test_doses_beyond_the_other_do_not_count(self):
        self.assertEqual(self.of(STRAIGHT, [(2, 3, 1, 0), (8, 9, 1, 0), (9, 10, 1, 0), (99, 100000, 1, 0)])[2], 10)
        self.assertEqual(self.of(
            [(0, -9000, 1, 0), (4, 4, 1, 0), (9, 9, 1, 0)], [(4, 5, 1, 0), (9, 9, 1, 0)]), [1, 1, 4])

    def test_widest(self):
        self.assertEqual(self.of(
            [(0, -1000000, 1, 0), (1000000, -1000000, 1, 0)], [(1000000, 1000000, 1, 0)]), [2000000, 1, 1000000])

    def test_asking_changes_nothing(self):
        told = ask(stocked(STRAIGHT, 0) + stocked(READINGS, 1) + [[POINTS, 0], [POINTS, 1], [GAP, 0, 1], [GAP, 0, 2],
                                                                 [POINTS, 0], [POINTS, 1], [GAP, 0, 1]])
        self.assertEqual(told[-7:-4], told[-3:])

    def test_turned_lots(self):
        told = ask(stocked(STRAIGHT, 0) + stocked(STRAIGHT, 1) + [[TURN, 1, 3, -4], [GAP, 0, 1]])
        # 3 x - 4 - x: 4 at 0, 16 at 10
        self.assertEqual(told[-1], [16, 1, 10])


class Refusals(unittest.TestCase):
    # lots 0 and 1 have readings, lot 2 has none, lot 3 isn't there; 0 and 1 share no dose
    there = stocked([(0, 1, 1, 0), (4, 2, 1, 0)], 0) + stocked([(5, 1, 1, 0)], 1) + [[LOT, 2, 0]]

    def of(self, n, m):
        return ask(self.there + [[GAP, n, m]])[-1]

    def test_lot_by_lot(self):
        for n, first in ((4, -1), (-1, -1), (3, -2)):
            for m in (0, 1, 2, 3, 4, -1):
                self.assertEqual(self.of(n, m), [first], (n, m))
        for n in (0, 1, 2):
            for m, second in ((4, -1), (-1, -1), (3, -2)):
                self.assertEqual(self.of(n, m), [second], (n, m))

    def test_no_readings(self):
        for n, m in ((2, 2), (0, 2), (2, 0), (1, 2), (2, 1)):
            self.assertEqual(self.of(n, m), [-5], (n, m))

    def test_no_dose_at_which_both_are(self):
        self.assertEqual(self.of(0, 1), [-6])
        self.assertEqual(self.of(1, 0), [-6])
        self.assertEqual(self.of(0, 0), [0, 1, 0])
        self.assertEqual(self.of(1, 1), [0, 1, 5])


class ManyLots(unittest.TestCase):
    """Held against what value tells of both lots, at their doses and between."""

    def line(self, answer):
        return None if answer == [-6] else Fraction(answer[1], answer[2])

    def test_against_what_value_tells(self):
        lots = [readings for readings in made_up_lots() if len(readings) <= 25]
        numbers = Numbers(18)
        seen = 0
        for trial in range(150):
            one, other = [lots[numbers.pick(0, len(lots) - 1)] for k in range(2)]
            doses = sorted({reading[0] for reading in one + other})
            between = [dose + doses[k + 1] for k, dose in enumerate(doses[:-1])]
            asked = [(dose, 1) for dose in doses] + [(total, 2) for total in between]
            told = ask(stocked(one, 0) + stocked(other, 1) + [[VALUE, n, a, b] for a, b in asked for n in (0, 1)]
                       + [[GAP, 0, 1]])
            lines = told[-1 - 2 * len(asked):-1]
            apart = {}
            for k, (a, b) in enumerate(asked):
                low, high = self.line(lines[2 * k]), self.line(lines[2 * k + 1])
                if low is not None and high is not None:
                    apart[Fraction(a, b)] = abs(low - high)
            if not apart:
                self.assertEqual(told[-1], [-6], (one, other))
                continue
            greatest = max(apart.values())
            least = min(dose for dose in doses if apart.get(dose) == greatest)
            self.assertEqual(told[-1], [greatest.numerator, greatest.denominator, least], (one, other))
            seen += 1
        self.assertGreater(seen, 60)


if __name__ == "__main__":
    unittest.main()
