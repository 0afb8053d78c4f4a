"""Call 24: lots."""

import unittest

from tests.helper import (
    CLEAR, CONTROL, LAST_TIME, LOT, LOTS, POINT, READ, READINGS, TICK, TURN, UNPOINT, ask, controlled, stocked)

NONE = [0, 0, 0, 0]


class Lots(unittest.TestCase):
    def after(self, calls):
        """What lots tells: now, and the four lots."""
        told = ask(calls + [[LOTS]])[-1]
        self.assertEqual([told[0], len(told)], [0, 18])
        return told[1], [told[k:k + 4] for k in range(2, 18, 4)]

    def test_at_the_beginning(self):
        self.assertEqual(self.after([]), (0, [NONE] * 4))

    def test_lots_that_are_there_and_that_are_not(self):
        for n in range(4):
            expected = [NONE] * 4
            expected[n] = [1, 7, 0, 0]
            self.assertEqual(self.after([[LOT, n, 7]]), (0, expected), n)
        self.assertEqual(self.after([[LOT, 3, 7], [LOT, 1, 0], [LOT, 0, LAST_TIME]]), (
            0, [[1, LAST_TIME, 0, 0], [1, 0, 0, 0], NONE, [1, 7, 0, 0]]))

    def test_a_refused_lot(self):
        self.assertEqual(self.after([[LOT, 1, -1], [LOT, 4, 7], [LOT, -1, 7]]), (0, [NONE] * 4))

    def test_after_each_change(self):
        calls = []
        for call, lot in (
                ([LOT, 2, 9], [1, 9, 0, 0]), ([POINT, 2, 1, 1, 1, 0], [1, 9, 1, 0]),
                ([POINT, 2, 1, 1, 1, 0], [1, 9, 2, 0]), ([CONTROL, 2, 1, 1, 1], [1, 9, 2, 1]),
                ([CONTROL, 2, 9, 1, 1], [1, 9, 2, 2]), ([CONTROL, 2, 9, 1, 0], [1, 9, 2, 2]),
                ([POINT, 2, 1, 1, 0, 0], [1, 9, 2, 2]), ([UNPOINT, 2, 0], [1, 9, 1, 2]),
                ([UNPOINT, 2, 1], [1, 9, 1, 2]), ([TURN, 2, 2, 2], [1, 9, 1, 2]), ([READ, 2, 1, 0], [1, 9, 1, 2]),
                ([CLEAR, 2], [1, 9, 1, 0]), ([UNPOINT, 2, 0], [1, 9, 0, 0]), ([CONTROL, 2, 1, 1, 1], [1, 9, 0, 1]),
                ([LOT, 2, 5], [1, 5, 0, 0])):
            calls.append(call)
            self.assertEqual(self.after(calls), (0, [NONE, NONE, lot, NONE]), calls)

    def test_after_tick(self):
        calls = [[LOT, 0, 5], [TICK, 4]]
        self.assertEqual(self.after(calls), (4, [[1, 5, 0, 0], NONE, NONE, NONE]))
        # a lot stays when its time is over
        self.assertEqual(self.after(calls + [[TICK, 1000000000], [TICK, 0]]), (
            1000000004, [[1, 5, 0, 0], NONE, NONE, NONE]))

    def test_full_lots(self):
        calls = stocked([(k, k, 1, 0) for k in range(40)], 1, 3) + controlled([(k, k, 1) for k in range(20)], 1)
        self.assertEqual(self.after(calls), (0, [NONE, [1, 3, 40, 20], NONE, NONE]))
        self.assertEqual(self.after(calls + [[POINT, 1, 1, 1, 1, 1], [CONTROL, 1, 1, 1, 1]]), (
            0, [NONE, [1, 3, 40, 20], NONE, NONE]))

    def test_asking_changes_nothing(self):
        told = ask(stocked(READINGS) + [[LOTS], [LOTS]])
        self.assertEqual(told[-1], told[-2])


if __name__ == "__main__":
    unittest.main()
