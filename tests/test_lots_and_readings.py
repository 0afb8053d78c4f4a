"""Calls 0 to 3: lot, point, unpoint, points; the refusals of the lots that calls name."""

import unittest

from tests.helper import (
    BLOCKS, CHANGED, CLASH, CLEAR, CONTROL, DOSE, FIT, GAP, LAST_TIME, LEAST_WORD, LOT, LOTS, MOST_WORD, POINT, POINTS,
    RANGE, READ, SHIFT, SHOWN, SQUARES, STEP, SUMS, TICK, TRUTH, TURN, UNPOINT, VALUE, ask, ask_of, controlled, stocked,
    trial)


def calls_that_need_readings(n):
    """One call of each kind that is refused by -5 where there are no readings, each with numbers that are let in."""
    return [
        [FIT, n], [BLOCKS, n], [SUMS, n], [SQUARES, n], trial(n, [1]), [VALUE, n, 1, 1], [DOSE, n, 1, 1], [STEP, n, 1],
        [TRUTH, n, 1], [CLASH, n], [RANGE, n, 1, 1], [SHIFT, n], [GAP, n, n], [READ, n, 1, 0], [READ, n, 1, 1]]


def calls_on(n):
    """One call of each kind that names a lot, but lot, each with numbers that are let in."""
    return [
        [POINT, n, 1, 1, 1, 0], [UNPOINT, n, 0], [POINTS, n], [CONTROL, n, 1, 1, 1], [CLEAR, n],
        [TURN, n, 1, 0]] + calls_that_need_readings(n)


def wrong_calls_on(n):
    """Calls that would be refused by -3 too."""
    return [
        [POINT, n, -1, 1, 1, 0], [UNPOINT, n, -1], trial(n, [5000000]), [VALUE, n, 1, 0],
        [DOSE, n, 1, 0], [STEP, n, -1], [TRUTH, n, -1], [RANGE, n, 1, 0], [CONTROL, n, -1, 1, 1],
        [READ, n, 1, 2], [TURN, n, 0, 0]]


class LotNumber(unittest.TestCase):
    def test_only_0_to_3_are_lot_numbers(self):
        for n in (-1, 4, LEAST_WORD, MOST_WORD):
            for call in calls_on(n) + wrong_calls_on(n) + [[LOT, n, 5], [LOT, n, -5]]:
                self.assertEqual(ask([call]), [[-1]], call)

    def test_a_lot_that_is_not_there(self):
        for n in (0, 1, 2, 3):
            others = [[LOT, m, 5] for m in range(4) if m != n]
            for call in calls_on(n) + wrong_calls_on(n):
                self.assertEqual(ask(others + [call])[-1], [-2], call)

    def test_0_and_3_are_let_in(self):
        for n in (0, 3):
            for call in calls_on(n):
                answer = ask(stocked([(1, 1, 1, 0)], n) + controlled([(1, 1, 1)], n) + [call])[-1]
                self.assertGreaterEqual(answer[0], 0, call)

    def test_a_lot_without_readings(self):
        for call in calls_that_need_readings(1):
            self.assertEqual(ask([[LOT, 1, 5], call])[-1], [-5], call)

    def test_readings_of_another_lot_do_not_count(self):
        for call in calls_that_need_readings(1):
            self.assertEqual(ask(stocked([(1, 1, 1, 0)], 0) + [[LOT, 1, 5], call])[-1], [-5], call)

    def test_a_lot_whose_readings_all_went(self):
        for call in calls_that_need_readings(0):
            self.assertEqual(ask(stocked([(1, 1, 1, 0)]) + [[UNPOINT, 0, 0], call])[-1], [-5], call)


class MakeLot(unittest.TestCase):
    def test_answers_0(self):
        self.assertEqual(ask([[LOT, 0, 7], [LOT, 3, 8]]), [[0], [0]])

    def test_edges_of_the_time(self):
        calls = [[LOT, 0, until] for until in (0, LAST_TIME, -1, LAST_TIME + 1, LEAST_WORD, MOST_WORD)]
        self.assertEqual(ask(calls), [[0], [0], [-3], [-3], [-3], [-3]])

    def test_a_refused_lot_is_not_there(self):
        self.assertEqual(ask([[LOT, 0, -1], [POINTS, 0]]), [[-3], [-2]])

    def test_a_refused_lot_leaves_the_old_one(self):
        calls = stocked([(1, 2, 3, 4)]) + [[LOT, 0, LAST_TIME + 1], [POINTS, 0]]
        self.assertEqual(ask(calls)[2:], [[-3], [0, 1, 1, 2, 3, 4]])

    def test_a_lot_made_again_is_empty(self):
        calls = stocked([(1, 2, 3, 4)]) + [[LOT, 0, 5], [POINTS, 0], [FIT, 0], [POINT, 0, 9, 9, 9, 9]]
        self.assertEqual(ask(calls)[2:], [[0], [0, 0], [-5], [0]])

    def test_a_lot_made_again_has_no_controls_and_another_time(self):
        calls = stocked([(1, 2, 3, 4)]) + controlled([(1, 2, 3), (1, 5, 3)]) + [[LOTS], [LOT, 0, 5], [LOTS]]
        told = ask(calls)[-3:]
        self.assertEqual([told[0][2:6], told[1], told[2][2:6]], [[1, 100, 1, 2], [0], [1, 5, 0, 0]])

    def test_results_stay_when_a_lot_is_made_again(self):
        calls = stocked([(1, 2, 3, 4)]) + [[TICK, 3], [READ, 0, 2, 0], [LOT, 0, 5], [SHOWN, 0], [CHANGED]]
        self.assertEqual(ask(calls)[-2:], [[3, 0, 2, 0, 0, 1, 1, 1, 1], [0, 1, 0]])

    def test_now_stays_when_a_lot_is_made_again(self):
        self.assertEqual(ask([[LOT, 0, 5], [TICK, 3], [LOT, 0, 9], [LOTS]])[-1][:4], [0, 3, 1, 9])

    def test_a_refused_lot_leaves_controls_and_time(self):
        calls = stocked([(1, 2, 3, 4)]) + controlled([(1, 2, 3)]) + [[LOT, 0, -1], [LOTS]]
        self.assertEqual(ask(calls)[-1][2:6], [1, 100, 1, 1])

    def test_lots_are_apart(self):
        calls = stocked([(1, 2, 3, 4)], 1) + stocked([(5, 6, 7, 8)], 2) + [[LOT, 1, 3], [POINTS, 1], [POINTS, 2]]
        self.assertEqual(ask(calls)[-2:], [[0, 0], [0, 1, 5, 6, 7, 8]])


class Point(unittest.TestCase):
    def test_numbers_from_0_in_the_order_told(self):
        calls = [[LOT, 2, 0], [POINT, 2, 9, 1, 1, 0], [POINT, 2, 3, 1, 1, 0], [POINT, 2, 9, 1, 1, 0]]
        self.assertEqual(ask(calls)[1:], [[0], [1], [2]])

    def test_edges_of_each_number(self):
        middle = [5, 5, 5, 5]
        edges = [(0, 1000000), (-1000000, 1000000), (1, 1000), (0, 1000000)]
        for place, (low, high) in enumerate(edges):
            for number, answer in ((low, [0]), (high, [0]), (low - 1, [-3]), (high + 1, [-3]),
                                   (LEAST_WORD, [-3]), (MOST_WORD, [-3])):
                reading = middle[:place] + [number] + middle[place + 1:]
                self.assertEqual(ask_of([], [POINT, 0] + reading), answer, reading)

    def test_40_are_let_in_and_no_more(self):
        full = [(k, k, 1, 0) for k in range(40)]
        told = ask(stocked(full) + [[POINT, 0, 1, 1, 1, 1], [POINTS, 0]])
        self.assertEqual(told[1:41], [[k] for k in range(40)])
        self.assertEqual(told[41], [-4])
        self.assertEqual(told[42], [0, 40] + [number for reading in full for number in reading])

    def test_out_of_range_goes_ahead_of_full(self):
        full = [(k, k, 1, 0) for k in range(40)]
        self.assertEqual(ask_of(full, [POINT, 0, 1, 1, 0, 1]), [-3])

    def test_full_is_asked_lot_by_lot(self):
        full = [(k, k, 1, 0) for k in range(40)]
        told = ask(stocked(full) + [[LOT, 1, 0], [POINT, 1, 1, 1, 1, 1]])
        self.assertEqual(told[-1], [0])

    def test_there_is_room_again_when_one_went(self):
        full = [(k, k, 1, 0) for k in range(40)]
        told = ask(stocked(full) + [[UNPOINT, 0, 7], [POINT, 0, 1, 1, 1, 1]])
        self.assertEqual(told[-2:], [[39], [39]])

    def test_a_refused_reading_is_not_kept(self):
        told = ask(stocked([(1, 2, 3, 4)]) + [[POINT, 0, 1, 2, 1001, 4], [POINTS, 0]])
        self.assertEqual(told[-2:], [[-3], [0, 1, 1, 2, 3, 4]])


class Unpoint(unittest.TestCase):
    three = [(1, 10, 1, 0), (2, 20, 1, 0), (3, 30, 1, 0)]

    def left(self, k):
        return ask(stocked(self.three) + [[UNPOINT, 0, k], [POINTS, 0]])[-2:]

    def test_those_behind_move_up(self):
        self.assertEqual(self.left(0), [[2], [0, 2, 2, 20, 1, 0, 3, 30, 1, 0]])
        self.assertEqual(self.left(1), [[2], [0, 2, 1, 10, 1, 0, 3, 30, 1, 0]])
        self.assertEqual(self.left(2), [[2], [0, 2, 1, 10, 1, 0, 2, 20, 1, 0]])

    def test_no_such_reading(self):
        whole = [0, 3, 1, 10, 1, 0, 2, 20, 1, 0, 3, 30, 1, 0]
        for k in (-1, -3, 3, LEAST_WORD, MOST_WORD):
            self.assertEqual(self.left(k), [[-3], whole], k)

    def test_of_an_empty_lot(self):
        self.assertEqual(ask_of([], [UNPOINT, 0, 0]), [-3])

    def test_the_last_one_goes(self):
        told = ask(stocked([(1, 1, 1, 1)]) + [[UNPOINT, 0, 0], [UNPOINT, 0, 0], [POINTS, 0]])
        self.assertEqual(told[-3:], [[0], [-3], [0, 0]])

    def test_the_curve_is_told_without_it(self):
        told = ask(stocked([(1, 4, 1, 0), (2, 0, 1, 0)]) + [[FIT, 0], [UNPOINT, 0, 1], [FIT, 0]])
        self.assertEqual(told[-3:], [[0, 2, 1, 2, 1, 2, 2, 1], [1], [0, 1, 1, 4, 1]])


class Points(unittest.TestCase):
    def test_in_the_order_told(self):
        readings = [(9, -8, 7, 6), (0, 0, 1, 0), (9, -8, 7, 6)]
        self.assertEqual(ask_of(readings, [POINTS, 0]), [0, 3, 9, -8, 7, 6, 0, 0, 1, 0, 9, -8, 7, 6])

    def test_none(self):
        self.assertEqual(ask_of([], [POINTS, 0]), [0, 0])


if __name__ == "__main__":
    unittest.main()
