"""Calls 15 to 17: control, clear, shift."""

import unittest
from fractions import Fraction

from tests.helper import (
    CLEAR, CONTROL, FIT, LEAST_WORD, LOT, LOTS, MOST_WORD, POINT, POINTS, READINGS, SHIFT, TURN, UNPOINT, VALUE,
    Numbers, ask, ask_of, controlled, made_up_lots, stocked)

# the line of READINGS: 4 at 10, 21/4 at 15, 13/2 from 20 to 30, 9 at 40


class AddControl(unittest.TestCase):
    def test_how_many_there_were_before(self):
        told = ask([[LOT, 0, 5]] + controlled([(1, 2, 3), (1, 2, 3), (0, -5, 1)]))
        self.assertEqual(told[1:], [[0], [1], [2]])

    def test_edges_of_each_number(self):
        middle = [5, 5, 5]
        edges = [(0, 1000000), (-1000000, 1000000), (1, 1000)]
        for place, (low, high) in enumerate(edges):
            for number, answer in ((low, [0]), (high, [0]), (low - 1, [-3]), (high + 1, [-3]),
                                   (LEAST_WORD, [-3]), (MOST_WORD, [-3])):
                control = middle[:place] + [number] + middle[place + 1:]
                self.assertEqual(ask_of([], [CONTROL, 0] + control), answer, control)

    def test_20_are_let_in_and_no_more(self):
        told = ask([[LOT, 0, 5]] + controlled([(k, k, 1) for k in range(20)]) + [[CONTROL, 0, 1, 1, 1], [LOTS]])
        self.assertEqual(told[1:21], [[k] for k in range(20)])
        self.assertEqual(told[21:], [[-4], [0, 0, 1, 5, 0, 20] + [0] * 12])

    def test_out_of_range_goes_ahead_of_full(self):
        told = ask([[LOT, 0, 5]] + controlled([(k, k, 1) for k in range(20)]) + [[CONTROL, 0, 1, 1, 0]])
        self.assertEqual(told[-1], [-3])

    def test_full_is_asked_lot_by_lot(self):
        calls = [[LOT, 0, 5], [LOT, 1, 5]] + controlled([(k, k, 1) for k in range(20)]) + [[CONTROL, 1, 1, 1, 1]]
        self.assertEqual(ask(calls)[-1], [0])

    def test_a_refused_control_is_not_kept(self):
        calls = stocked(READINGS) + controlled([(15, 6, 1), (15, 7, 0), (15, 1000001, 1), (-1, 6, 1)])
        told = ask(calls + [[SHIFT, 0], [CONTROL, 0, 15, 6, 1]])
        self.assertEqual(told[-5:], [[-3], [-3], [-3], [0, 3, 4], [1]])

    def test_readings_and_controls_are_apart(self):
        calls = stocked(READINGS) + [[CONTROL, 0, 15, 900, 5], [POINTS, 0], [FIT, 0]]
        told = ask(calls)
        self.assertEqual(told[-2:], [ask_of(READINGS, [POINTS, 0]), ask_of(READINGS, [FIT, 0])])

    def test_full_of_readings_is_not_full_of_controls(self):
        full = [(k, k, 1, 0) for k in range(40)]
        self.assertEqual(ask(stocked(full) + [[CONTROL, 0, 1, 1, 1], [POINT, 0, 1, 1, 1, 1]])[-2:], [[0], [-4]])

    def test_a_lot_made_again_has_none(self):
        calls = stocked(READINGS) + [[CONTROL, 0, 15, 6, 1]] + stocked(READINGS) + [[SHIFT, 0], [CONTROL, 0, 15, 6, 1]]
        self.assertEqual(ask(calls)[-2:], [[-6], [0]])


class Clear(unittest.TestCase):
    def test_no_controls_any_more(self):
        calls = stocked(READINGS) + controlled([(15, 6, 1), (20, 6, 1)]) + [[CLEAR, 0], [SHIFT, 0], [LOTS]]
        self.assertEqual(ask(calls)[-3:], [[0], [-6], [0, 0, 1, 100, 5, 0] + [0] * 12])

    def test_where_there_is_none(self):
        self.assertEqual(ask([[LOT, 0, 5], [CLEAR, 0], [CLEAR, 0]]), [[0], [0], [0]])

    def test_readings_stay(self):
        calls = stocked(READINGS) + [[CONTROL, 0, 15, 6, 1], [CLEAR, 0], [POINTS, 0]]
        self.assertEqual(ask(calls)[-1], ask_of(READINGS, [POINTS, 0]))

    def test_other_lots_stay(self):
        calls = stocked(READINGS, 0) + stocked(READINGS, 1) + controlled([(15, 6, 1)], 0) + controlled([(15, 7, 1)], 1)
        self.assertEqual(ask(calls + [[CLEAR, 0], [SHIFT, 0], [SHIFT, 1]])[-3:], [[0], [-6], [0, 7, 4]])

    def test_there_is_room_again(self):
        calls = [[LOT, 0, 5]] + controlled([(k, k, 1) for k in range(20)]) + [[CLEAR, 0], [CONTROL, 0, 1, 1, 1]]
        self.assertEqual(ask(calls)[-2:], [[0], [0]])

    def test_lots_that_are_not_there(self):
        self.assertEqual(ask([[CLEAR, 0], [CLEAR, 4], [CLEAR, -1]]), [[-2], [-1], [-1]])


class Shift(unittest.TestCase):
    def of(self, readings, controls):
        return ask(stocked(readings) + controlled(controls) + [[SHIFT, 0]])[-1]

    def test_between_two_doses(self):
        # 6 - 21/4
        self.assertEqual(self.of(READINGS, [(15, 6, 1)]), [0, 3, 4])
        self.assertEqual(self.of(READINGS, [(15, 6, 1000)]), [0, 3, 4])

    def test_at_a_dose_and_on_a_flat_part(self):
        self.assertEqual(self.of(READINGS, [(20, 7, 1)]), [0, 1, 2])
        self.assertEqual(self.of(READINGS, [(25, 7, 1)]), [0, 1, 2])
        self.assertEqual(self.of(READINGS, [(10, 7, 1)]), [0, 3, 1])
        self.assertEqual(self.of(READINGS, [(40, 7, 1)]), [0, -2, 1])

    def test_unequal_weights(self):
        # (3/4 + 3 * -1) / 4
        self.assertEqual(self.of(READINGS, [(15, 6, 1), (40, 8, 3)]), [0, -9, 16])
        # (3 * 3/4 - 1) / 4
        self.assertEqual(self.of(READINGS, [(15, 6, 3), (40, 8, 1)]), [0, 5, 16])
        # (1000 * 3/4 - 1) / 1001
        self.assertEqual(self.of(READINGS, [(15, 6, 1000), (40, 8, 1)]), [0, 107, 143])

    def test_0(self):
        self.assertEqual(self.of(READINGS, [(10, 4, 5)]), [0, 0, 1])
        # 3/4 - 3 * 1/4
        self.assertEqual(self.of(READINGS, [(15, 6, 1), (15, 5, 3)]), [0, 0, 1])

    def test_below_0(self):
        self.assertEqual(self.of(READINGS, [(15, -6, 2)]), [0, -45, 4])
        self.assertEqual(self.of([(0, -5, 1, 0), (3, -3, 1, 0)], [(1, -5, 1)]), [0, -2, 3])

    def test_one_dose_alone(self):
        self.assertEqual(self.of([(7, 1, 1, 0), (7, 2, 1, 0)], [(7, 4, 1)]), [0, 5, 2])
        self.assertEqual(self.of([(7, 1, 1, 0), (7, 2, 1, 0)], [(6, 4, 1)]), [-7])
        self.assertEqual(self.of([(7, 1, 1, 0), (7, 2, 1, 0)], [(8, 4, 1)]), [-7])

    def test_edges_of_all_ranges(self):
        readings = [(0, -1000000, 1, 0), (1000000, -1000000, 1, 0)]
        self.assertEqual(self.of(readings, [(0, 1000000, 1000), (1000000, 1000000, 1000)]), [0, 2000000, 1])

    def test_20_controls_and_the_21st(self):
        # 0 to 19 have the mean 19/2
        controls = [(10, k, 1) for k in range(20)]
        self.assertEqual(self.of(READINGS, controls), [0, 11, 2])
        told = ask(stocked(READINGS) + controlled(controls + [(10, 900, 1)]) + [[SHIFT, 0]])
        self.assertEqual(told[-2:], [[-4], [0, 11, 2]])

    def test_beyond_the_line(self):
        for dose in (0, 9, 41, 1000000):
            self.assertEqual(self.of(READINGS, [(dose, 5, 1)]), [-7], dose)
            self.assertEqual(self.of(READINGS, [(15, 6, 1), (dose, 5, 1), (20, 5, 1)]), [-7], dose)
            self.assertEqual(self.of(READINGS, [(15, 6, 1), (20, 5, 1), (dose, 5, 1)]), [-7], dose)

    def test_the_order_of_refusals(self):
        self.assertEqual(self.of([], []), [-5])
        self.assertEqual(self.of([], [(15, 6, 1)]), [-5])
        self.assertEqual(self.of(READINGS, []), [-6])
        self.assertEqual(self.of(READINGS, [(41, 6, 1)]), [-7])
        told = ask(stocked(READINGS) + [[SHIFT, 1], [SHIFT, 4], [SHIFT, -1]])
        self.assertEqual(told[-3:], [[-2], [-1], [-1]])

    def test_the_line_is_asked_as_it_stands(self):
        calls = stocked([(10, 4, 1, 0), (20, 6, 1, 0)]) + controlled([(20, 9, 1)]) + [
            [SHIFT, 0], [POINT, 0, 20, 8, 1, 0], [SHIFT, 0], [UNPOINT, 0, 1], [UNPOINT, 0, 1], [SHIFT, 0],
            [POINT, 0, 30, 7, 1, 0], [SHIFT, 0], [UNPOINT, 0, 0], [UNPOINT, 0, 0], [SHIFT, 0]]
        told = ask(calls)[-11:]
        # 9 - 6; 9 - 7; no line at 20; 9 - 11/2; no readings
        self.assertEqual([told[k] for k in (0, 2, 5, 7, 10)], [[0, 3, 1], [0, 2, 1], [-7], [0, 7, 2], [-5]])

    def test_asking_changes_nothing(self):
        calls = stocked(READINGS) + controlled([(15, 6, 1), (40, 8, 3)]) + [[SHIFT, 0], [SHIFT, 0], [POINTS, 0]]
        told = ask(calls)
        self.assertEqual(told[-3:], [[0, -9, 16], [0, -9, 16], ask_of(READINGS, [POINTS, 0])])

    def test_a_turn_turns_it(self):
        # the line and the controls are turned alike: 3 times the shift is left
        calls = stocked(READINGS) + controlled([(15, 6, 1), (40, 8, 3)]) + [[TURN, 0, 3, 100], [SHIFT, 0]]
        self.assertEqual(ask(calls)[-1], [0, -27, 16])


class ManyLots(unittest.TestCase):
    def test_against_what_value_tells(self):
        numbers = Numbers(17)
        for readings in made_up_lots()[::6]:
            least = min(reading[0] for reading in readings)
            most = max(reading[0] for reading in readings)
            controls = [(numbers.pick(least, most), numbers.pick(-50, 50), numbers.pick(1, 1000))
                        for k in range(numbers.pick(1, 20))]
            told = ask(stocked(readings) + controlled(controls)
                       + [[VALUE, 0, control[0], 1] for control in controls] + [[SHIFT, 0]])
            lines = [Fraction(answer[1], answer[2]) for answer in told[-1 - len(controls):-1]]
            total = sum(w * (r - line) for (d, r, w), line in zip(controls, lines))
            shift = Fraction(total) / sum(w for d, r, w in controls)
            self.assertEqual(told[-1], [0, shift.numerator, shift.denominator], (readings, controls))


if __name__ == "__main__":
    unittest.main()
