"""Calls 19 to 21: tick, read, shown."""

import unittest

from risingcurves.desk import Desk, answer_call
from tests.helper import (
    CHANGED, DOSE, LAST_TIME, LEAST_WORD, LOT, LOTS, MOST_WORD, POINTS, READ, READINGS, SHIFT, SHOWN, TICK, ask, ask_of,
    controlled, made_up_lots, stocked)

# the line of READINGS: 4 at 10, 21/4 at 15, 13/2 from 20 to 30, 9 at 40
MOST_STEP = 1000000000


def now_of(calls):
    return ask(calls + [[LOTS]])[-1][1]


class Tick(unittest.TestCase):
    def test_now_is_later(self):
        self.assertEqual(ask([[TICK, 5], [TICK, 7]]), [[0], [0]])
        self.assertEqual(now_of([[TICK, 5], [TICK, 7]]), 12)

    def test_0_at_the_beginning(self):
        self.assertEqual(now_of([]), 0)

    def test_edges(self):
        for k, answer in ((1, [0]), (MOST_STEP, [0]), (0, [-1]), (-1, [-1]), (MOST_STEP + 1, [-1]),
                          (LEAST_WORD, [-1]), (MOST_WORD, [-1])):
            told = ask([[TICK, 3], [TICK, k], [LOTS]])
            self.assertEqual(told[1], answer, k)
            self.assertEqual(told[2][1], 3 + k if answer == [0] else 3, k)

    def test_far(self):
        self.assertEqual(now_of([[TICK, MOST_STEP]] * 399), 399 * MOST_STEP)

    def test_the_last_time_and_the_one_behind_it(self):
        # 400 calls don't come that far, so a desk is set there
        for now, k, answer in ((LAST_TIME - 1, 1, [0]), (LAST_TIME - 1, 2, [-4]), (LAST_TIME, 1, [-4]),
                               (LAST_TIME - MOST_STEP, MOST_STEP, [0]), (LAST_TIME - MOST_STEP + 1, MOST_STEP, [-4]),
                               (LAST_TIME, 0, [-1]), (LAST_TIME, MOST_STEP + 1, [-1])):
            desk = Desk()
            desk.now = now
            self.assertEqual(answer_call(desk, TICK, [k]), answer, (now, k))
            self.assertEqual(answer_call(desk, LOTS, [])[1], now + k if answer == [0] else now, (now, k))


class Read(unittest.TestCase):
    def of(self, readings, controls, response, off):
        """What is told of a response, without the result's number."""
        told = ask(stocked(readings) + controlled(controls) + [[READ, 0, response, off]])[-1]
        self.assertEqual(told[0], 0)
        return told[1:]

    def test_between(self):
        self.assertEqual(self.of(READINGS, [], 5, 0), [0, 14, 1, 14, 1])
        self.assertEqual(self.of(READINGS, [], 4, 0), [0, 10, 1, 10, 1])
        self.assertEqual(self.of(READINGS, [], 9, 0), [0, 40, 1, 40, 1])
        self.assertEqual(self.of([(0, 0, 1, 0), (10, 3, 1, 0)], [], 1, 0), [0, 10, 3, 10, 3])

    def test_below_and_above(self):
        self.assertEqual(self.of(READINGS, [], 3, 0), [1])
        self.assertEqual(self.of(READINGS, [], 10, 0), [2])
        self.assertEqual(self.of(READINGS, [], -1000000, 0), [1])
        self.assertEqual(self.of(READINGS, [], 1000000, 0), [2])

    def test_flat(self):
        self.assertEqual(self.of([(0, 7, 1, 0), (9, 7, 1, 0)], [], 7, 0), [0, 0, 1, 9, 1])

    def test_the_shift_taken_off(self):
        # 5 - 3/4 is 1/4 above 4: 10 + 10 * (1/4) / (5/2)
        self.assertEqual(self.of(READINGS, [(15, 6, 1)], 5, 1), [0, 11, 1, 11, 1])
        # 6 + 1/2 is the flat part
        self.assertEqual(self.of(READINGS, [(10, 3, 2), (10, 4, 2)], 6, 1), [0, 20, 1, 30, 1])
        # 5 + 9/16 is 25/16 above 4: 10 + 10 * (25/16) / (5/2)
        self.assertEqual(self.of(READINGS, [(15, 6, 1), (40, 8, 3)], 5, 1), [0, 65, 4, 65, 4])

    def test_below_and_above_by_the_shift(self):
        self.assertEqual(self.of(READINGS, [(15, 6, 1)], 4, 1), [1])
        self.assertEqual(self.of(READINGS, [(15, 6, 1)], 10, 1), [2])
        self.assertEqual(self.of(READINGS, [(10, 6, 1)], 11, 1), [0, 40, 1, 40, 1])
        self.assertEqual(self.of(READINGS, [(10, 2, 1)], 2, 1), [0, 10, 1, 10, 1])

    def test_a_shift_that_is_not_taken_off(self):
        self.assertEqual(self.of(READINGS, [(15, 6, 1)], 5, 0), [0, 14, 1, 14, 1])
        self.assertEqual(self.of(READINGS, [(99, 6, 1)], 5, 0), [0, 14, 1, 14, 1])

    def test_a_shift_of_0(self):
        self.assertEqual(self.of(READINGS, [(10, 4, 1)], 5, 1), [0, 14, 1, 14, 1])

    def test_numbers_from_0_over_all_lots(self):
        calls = stocked(READINGS, 0) + stocked(READINGS, 2) + [
            [READ, 0, 5, 0], [READ, 2, 3, 0], [READ, 0, 5, 0], [READ, 2, 10, 0]]
        self.assertEqual(ask(calls)[-4:], [[0, 0, 14, 1, 14, 1], [1, 1], [2, 0, 14, 1, 14, 1], [3, 2]])

    def test_as_dose_tells(self):
        for readings in made_up_lots()[::7]:
            asked = [readings[0][1], readings[-1][1] + 1, readings[len(readings) // 2][1] - 1, 0]
            asked = [response for response in asked if abs(response) <= 1000000]
            told = ask(stocked(readings) + [[DOSE, 0, r, 1] for r in asked] + [[READ, 0, r, 0] for r in asked])
            doses = told[-2 * len(asked):-len(asked)]
            self.assertEqual(told[-len(asked):], [[k] + dose for k, dose in enumerate(doses)], readings)

    def test_100_results_and_the_101st(self):
        told = ask(stocked(READINGS) + [[READ, 0, 3, 0]] * 101 + [[SHOWN, 99], [SHOWN, 100], [CHANGED]])
        behind = len(READINGS) + 1
        self.assertEqual(told[behind:], [[k, 1] for k in range(100)] + [[-4], [0, 0, 3, 0, 1], [-1], [0, 0]])

    def test_100_results_of_all_lots_together(self):
        calls = stocked(READINGS, 0) + stocked(READINGS, 1) + [[READ, 0, 3, 0], [READ, 1, 3, 0]] * 50
        told = ask(calls + [[READ, 0, 3, 0], [READ, 1, 3, 0]])
        self.assertEqual(told[-3:], [[99, 1], [-4], [-4]])

    def test_good_up_to_now(self):
        calls = stocked(READINGS, 0, 5)
        read = [READ, 0, 5, 0]
        told = ask(calls + [[TICK, 4], read, [TICK, 1], read, [TICK, 1], read, [CHANGED]])
        self.assertEqual(told[-6:], [
            [0, 0, 14, 1, 14, 1], [0], [1, 0, 14, 1, 14, 1], [0], [-9], [0, 0]])

    def test_good_up_to_0(self):
        told = ask(stocked(READINGS, 0, 0) + [[READ, 0, 3, 0], [TICK, 1], [READ, 0, 3, 0]])
        self.assertEqual(told[-3:], [[0, 1], [0], [-9]])

    def test_good_again_when_made_again(self):
        told = ask([[LOT, 0, 0], [TICK, 9]] + stocked(READINGS, 0, 9) + [[READ, 0, 3, 0]])
        self.assertEqual(told[-1], [0, 1])

    def test_nothing_of_the_lot_changes(self):
        calls = stocked(READINGS) + controlled([(15, 6, 1)]) + [[READ, 0, 5, 1], [POINTS, 0], [SHIFT, 0], [LOTS]]
        self.assertEqual(ask(calls)[-3:], [
            ask_of(READINGS, [POINTS, 0]), [0, 3, 4], [0, 0, 1, 100, 5, 1] + [0] * 12])


class ReadRefusals(unittest.TestCase):
    """Each refusal, and which goes ahead: -1, -2, -3, -5, with off 1 -6 and -7, then -9, then -4."""

    def of(self, readings, controls, call, late=False, full=False):
        calls = stocked(READINGS, 3) + [[READ, 3, 3, 0]] * (100 if full else 1)
        calls += stocked(readings, 0, 5) + controlled(controls) + ([[TICK, 6]] if late else [])
        told = ask(calls + [call, [SHOWN, 100 if full else 1], [SHOWN, 0], [POINTS, 0]])
        if told[-4][0] < 0:
            # it changed nothing: there is no other result
            self.assertEqual(told[-3:-1], [[-1], [0, 3, 3, 0, 1]], call)
            self.assertEqual(told[-1], ask_of(readings, [POINTS, 0]))
        return told[-4]

    def test_edges_of_the_response(self):
        for response, answer in ((-1000000, [1, 1]), (1000000, [1, 2]), (-1000001, [-3]), (1000001, [-3]),
                                 (LEAST_WORD, [-3]), (MOST_WORD, [-3])):
            self.assertEqual(self.of(READINGS, [], [READ, 0, response, 0]), answer, response)

    def test_edges_of_off(self):
        for off, answer in ((0, [1, 1]), (1, [1, 1]), (-1, [-3]), (2, [-3]), (LEAST_WORD, [-3]), (MOST_WORD, [-3])):
            self.assertEqual(self.of(READINGS, [(15, 6, 1)], [READ, 0, 3, off]), answer, off)

    def test_the_lot_goes_ahead_of_all(self):
        for response, off in ((5, 0), (5, 2), (1000001, 0)):
            for late in (False, True):
                self.assertEqual(self.of([], [], [READ, 4, response, off], late, True), [-1])
                self.assertEqual(self.of([], [], [READ, -1, response, off], late, True), [-1])
                self.assertEqual(self.of([], [], [READ, 1, response, off], late, True), [-2])

    def test_out_of_range_goes_ahead_of_all_that_the_lot_is(self):
        for readings in ([], READINGS):
            for late in (False, True):
                for full in (False, True):
                    self.assertEqual(self.of(readings, [], [READ, 0, 5, 2], late, full), [-3])
                    self.assertEqual(self.of(readings, [], [READ, 0, 1000001, 1], late, full), [-3])

    def test_no_readings_goes_ahead_of_the_shift(self):
        for controls in ([], [(15, 6, 1)]):
            for late in (False, True):
                for full in (False, True):
                    for off in (0, 1):
                        self.assertEqual(self.of([], controls, [READ, 0, 5, off], late, full), [-5])

    def test_the_shift_goes_ahead_of_the_time(self):
        for late in (False, True):
            for full in (False, True):
                self.assertEqual(self.of(READINGS, [], [READ, 0, 5, 1], late, full), [-6])
                for controls in ([(9, 6, 1)], [(41, 6, 1)], [(15, 6, 1), (41, 6, 1)], [(9, 6, 1), (15, 6, 1)]):
                    self.assertEqual(self.of(READINGS, controls, [READ, 0, 5, 1], late, full), [-7], controls)

    def test_without_it_the_shift_is_not_asked(self):
        for controls in ([], [(9, 6, 1)], [(41, 6, 1)]):
            self.assertEqual(self.of(READINGS, controls, [READ, 0, 3, 0]), [1, 1])
            self.assertEqual(self.of(READINGS, controls, [READ, 0, 3, 0], late=True), [-9])
            self.assertEqual(self.of(READINGS, controls, [READ, 0, 3, 0], full=True), [-4])

    def test_the_time_goes_ahead_of_full(self):
        for off in (0, 1):
            self.assertEqual(self.of(READINGS, [(15, 6, 1)], [READ, 0, 3, off], True, True), [-9])
            self.assertEqual(self.of(READINGS, [(15, 6, 1)], [READ, 0, 3, off], False, True), [-4])
            self.assertEqual(self.of(READINGS, [(15, 6, 1)], [READ, 0, 3, off], True, False), [-9])

    def test_controls_at_the_ends_of_the_line(self):
        for dose in (10, 40):
            self.assertEqual(self.of(READINGS, [(dose, 6, 1)], [READ, 0, -500, 1]), [1, 1])


class Shown(unittest.TestCase):
    def test_time_lot_response_off_and_what_was_told(self):
        calls = stocked(READINGS, 2) + controlled([(15, 6, 1)], 2) + [
            [READ, 2, 5, 0], [TICK, 7], [READ, 2, 5, 1], [READ, 2, 3, 0], [TICK, 1], [READ, 2, 11, 1]]
        told = ask(calls + [[SHOWN, 0], [SHOWN, 1], [SHOWN, 2], [SHOWN, 3]])
        self.assertEqual(told[-4:], [
            [0, 2, 5, 0, 0, 14, 1, 14, 1], [7, 2, 5, 1, 0, 11, 1, 11, 1], [7, 2, 3, 0, 1], [8, 2, 11, 1, 2]])

    def test_a_response_below_0(self):
        told = ask(stocked([(0, -5, 1, 0), (4, -3, 1, 0)]) + [[READ, 0, -4, 0], [SHOWN, 0]])
        self.assertEqual(told[-2:], [[0, 0, 2, 1, 2, 1], [0, 0, -4, 0, 0, 2, 1, 2, 1]])

    def test_no_such_result(self):
        self.assertEqual(ask([[SHOWN, 0], [SHOWN, -1]]), [[-1], [-1]])
        calls = stocked(READINGS) + [[READ, 0, 3, 0], [READ, 0, 10, 0]]
        for id_number, answer in ((0, [0, 0, 3, 0, 1]), (1, [0, 0, 10, 0, 2]), (2, [-1]), (-1, [-1]), (-2, [-1]),
                                  (LEAST_WORD, [-1]), (MOST_WORD, [-1])):
            self.assertEqual(ask(calls + [[SHOWN, id_number]])[-1], answer, id_number)

    def test_a_number_that_is_no_lot_can_be_a_result(self):
        told = ask(stocked(READINGS) + [[READ, 0, 3, 0]] * 6 + [[SHOWN, 5], [SHOWN, 3]])
        self.assertEqual(told[-2:], [[0, 0, 3, 0, 1], [0, 0, 3, 0, 1]])

    def test_a_refused_read_is_no_result(self):
        told = ask(stocked(READINGS) + [[READ, 0, 3, 1], [READ, 0, 3, 2], [SHOWN, 0]])
        self.assertEqual(told[-3:], [[-6], [-3], [-1]])

    def test_showing_changes_nothing(self):
        calls = stocked(READINGS) + [[TICK, 2], [READ, 0, 5, 0], [TICK, 2]] + [[SHOWN, 0], [CHANGED]] * 3
        self.assertEqual(ask(calls)[-6:], [[2, 0, 5, 0, 0, 14, 1, 14, 1], [0, 0]] * 3)


if __name__ == "__main__":
    unittest.main()
