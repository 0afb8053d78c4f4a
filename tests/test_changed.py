"""Call 22: changed; and promise 4, that a result stays as it was told."""

import unittest

from tests.helper import (
    CHANGED, CLEAR, CONTROL, LOT, LOTS, POINT, POINTS, READ, READINGS, SHOWN, TICK, TURN, UNPOINT, Numbers, ask,
    controlled, stocked)

# the line of READINGS: 4 at 10, 21/4 at 15, 13/2 from 20 to 30, 9 at 40; told of these: 14, below, above
READS = [[READ, 0, 5, 0], [READ, 0, 3, 0], [READ, 0, 10, 0]]
TOLD = [[0, 0, 5, 0, 0, 14, 1, 14, 1], [0, 0, 3, 0, 1], [0, 0, 10, 0, 2]]


class Changed(unittest.TestCase):
    def after(self, calls, reads=READS, controls=()):
        """What changed tells once these calls came behind the reads."""
        told = ask(stocked(READINGS) + controlled(controls) + reads + calls + [[CHANGED]])
        self.assertEqual(told[-1][0], 0)
        self.assertEqual(told[-1][1], len(told[-1]) - 2)
        return told[-1][2:]

    def test_no_results(self):
        self.assertEqual(ask([[CHANGED]]), [[0, 0]])
        self.assertEqual(ask([[LOT, 0, 5], [CHANGED]])[-1], [0, 0])

    def test_none_changed(self):
        self.assertEqual(self.after([]), [])

    def test_told_otherwise(self):
        # 5 at 10 now: 5 has another dose; 3 is below and 10 above still
        self.assertEqual(self.after([[POINT, 0, 10, 6, 1, 0]]), [0])
        # 2 at 5: 3 is between now, 5 is where it was
        self.assertEqual(self.after([[POINT, 0, 5, 2, 1, 0]]), [1])
        # 20 at 50: 10 is between now
        self.assertEqual(self.after([[POINT, 0, 50, 20, 1, 0]]), [2])
        self.assertEqual(self.after([[POINT, 0, 5, 2, 1, 0], [POINT, 0, 50, 20, 1, 0]]), [1, 2])

    def test_from_below_to_above(self):
        self.assertEqual(self.after([[TURN, 0, 1, -100]]), [0, 1])
        self.assertEqual(self.after([[TURN, 0, 1, 100]]), [0, 2])

    def test_a_change_that_does_not_touch_what_was_told(self):
        # the value at 40 is another one; 5 lies between 10 and 20
        self.assertEqual(self.after([[POINT, 0, 40, 8, 1, 0]]), [])
        # on the straight way from 4 at 10 to 13/2 at 20
        self.assertEqual(self.after([[POINT, 0, 14, 5, 1, 0]]), [])

    def test_the_first_or_the_last_dose_alone(self):
        reads = [[READ, 0, 6, 1]]
        controls = [(10, 3, 2), (10, 4, 2)]
        self.assertEqual(self.after([], reads, controls), [])
        # told was from 20 to 30: now from 20 to 33
        calls = [[UNPOINT, 0, k] for k in (4, 3, 2, 1)]
        flat = [[POINT, 0, 20, 6, 1, 0], [POINT, 0, 20, 7, 1, 0]]
        self.assertEqual(self.after(calls + flat, reads, controls), [0])
        flat += [[POINT, 0, 30, 6, 1, 0], [POINT, 0, 30, 7, 1, 0]]
        self.assertEqual(self.after(calls + flat, reads, controls), [])
        flat += [[POINT, 0, 33, 6, 1, 0], [POINT, 0, 33, 7, 1, 0]]
        self.assertEqual(self.after(calls + flat, reads, controls), [0])

    def test_a_lot_told_anew(self):
        self.assertEqual(self.after([[LOT, 0, 100]]), [0, 1, 2])
        self.assertEqual(self.after(stocked(READINGS)), [])
        self.assertEqual(self.after(stocked(READINGS[::-1])), [])
        self.assertEqual(self.after(stocked(READINGS[1:])), [0])

    def test_a_lot_that_lost_its_readings(self):
        self.assertEqual(self.after([[UNPOINT, 0, 0]] * 5), [0, 1, 2])

    def test_the_shift(self):
        reads = READS + [[READ, 0, 5, 1], [READ, 0, 3, 1], [READ, 0, 90, 1]]
        controls = [(15, 6, 1)]
        self.assertEqual(self.after([], reads, controls), [])
        # lost controls: those with off 1 can't be told
        self.assertEqual(self.after([[CLEAR, 0]], reads, controls), [3, 4, 5])
        # another shift: 3 is below and 90 above still
        self.assertEqual(self.after([[CONTROL, 0, 15, 5, 1]], reads, controls), [3])
        # the same shift
        self.assertEqual(self.after([[CONTROL, 0, 15, 6, 5]], reads, controls), [])
        self.assertEqual(self.after([[CLEAR, 0], [CONTROL, 0, 15, 6, 9]], reads, controls), [])
        # a control beyond the line
        self.assertEqual(self.after([[CONTROL, 0, 41, 5, 1]], reads, controls), [3, 4, 5])

    def test_a_control_that_has_come_to_lie_beyond_the_line(self):
        reads = READS + [[READ, 0, 5, 1]]
        controls = [(40, 9, 1)]
        # the last dose goes; 10 is above still
        self.assertEqual(self.after([[UNPOINT, 0, 4]], reads, controls), [3])
        self.assertEqual(self.after([[UNPOINT, 0, 4], [POINT, 0, 40, 9, 1, 0]], reads, controls), [])

    def test_a_line_that_moves_with_its_shift(self):
        # a line 10 higher and a shift that is as it was
        reads = [[READ, 0, 5, 1]]
        self.assertEqual(self.after([[TURN, 0, 1, 10]], reads, [(15, 6, 1)]), [0])
        # the control stays where it was while the line rises by 10: the response less the shift is on the line again
        calls = [[TURN, 0, 1, 10], [CLEAR, 0], [CONTROL, 0, 15, 6, 1]]
        self.assertEqual(self.after(calls, reads, [(15, 6, 1)]), [])
        self.assertEqual(self.after(calls, reads + READS, [(15, 6, 1)]), [1, 3])

    def test_coming_back(self):
        self.assertEqual(self.after([[POINT, 0, 10, 6, 1, 0], [UNPOINT, 0, 5]]), [])
        self.assertEqual(self.after([[TURN, 0, 1, 100], [TURN, 0, 1, -100]]), [])
        calls = stocked(READINGS) + READS + [
            [POINT, 0, 10, 6, 1, 0], [CHANGED], [UNPOINT, 0, 5], [CHANGED], [LOT, 0, 3], [CHANGED]]
        calls += stocked(READINGS) + [[CHANGED]]
        told = [answer for call, answer in zip(calls, ask(calls)) if call == [CHANGED]]
        self.assertEqual(told, [[0, 1, 0], [0, 0], [0, 3, 0, 1, 2], [0, 0]])

    def test_the_time_does_not_matter(self):
        self.assertEqual(self.after([[TICK, 1000]]), [])
        self.assertEqual(self.after([[TICK, 1000], [POINT, 0, 10, 6, 1, 0]]), [0])
        self.assertEqual(self.after([[TICK, 1000]] + stocked(READINGS, 0, 5)), [])

    def test_bounds_do_not_matter(self):
        self.assertEqual(self.after(stocked([(d, r, w, 9) for d, r, w, b in READINGS])), [])

    def test_each_by_its_own_lot(self):
        calls = stocked(READINGS, 0) + stocked(READINGS, 3) + [
            [READ, 0, 5, 0], [READ, 3, 5, 0], [READ, 0, 5, 0], [READ, 3, 5, 0]]
        self.assertEqual(ask(calls + [[LOT, 3, 0], [CHANGED]])[-1], [0, 2, 1, 3])
        self.assertEqual(ask(calls + [[POINT, 0, 10, 6, 1, 0], [CHANGED]])[-1], [0, 2, 0, 2])

    def test_all_of_100(self):
        calls = stocked(READINGS) + [[READ, 0, 5, 0]] * 100
        self.assertEqual(ask(calls + [[LOT, 0, 0], [CHANGED]])[-1], [0, 100] + list(range(100)))
        self.assertEqual(ask(calls + [[CHANGED]])[-1], [0, 0])

    def test_a_result_told_of_the_lot_as_it_is_now_is_not_among_them(self):
        calls = READS[:1] + [[POINT, 0, 10, 6, 1, 0]] + READS[:1]
        self.assertEqual(self.after([], calls), [0])

    def test_asking_changes_nothing(self):
        calls = stocked(READINGS) + READS + [[POINT, 0, 10, 6, 1, 0]] + [[CHANGED], [POINTS, 0], [LOTS], [SHOWN, 0]] * 2
        told = ask(calls)
        self.assertEqual(told[-8:-4], told[-4:])


class PromiseFour(unittest.TestCase):
    """A result stays as it was told, whatever becomes of its lot."""

    ends = [
        [[LOT, 0, 0]], [[UNPOINT, 0, 0]] * 5, [[POINT, 0, 10, 900, 9, 0]], [[TURN, 0, 7, 9]], [[TICK, 1000]],
        [[CONTROL, 0, 99, 5, 5]], [[CONTROL, 0, 10, 5, 5]], [[CLEAR, 0]], stocked([(1, 1, 1, 1)]),
        [[LOT, 0, 0], [TICK, 5], [CHANGED]], [[READ, 0, 5, 0]], [[LOT, 1, 5]]]

    def test_whatever_becomes_of_the_lot(self):
        for calls in self.ends:
            told = ask(stocked(READINGS) + READS + calls + [[SHOWN, 0], [SHOWN, 1], [SHOWN, 2]])
            self.assertEqual(told[-3:], TOLD, calls)

    def test_with_the_shift_taken_off(self):
        for calls in self.ends:
            start = stocked(READINGS) + controlled([(15, 6, 1)]) + [[TICK, 3], [READ, 0, 5, 1]]
            told = ask(start + calls + [[SHOWN, 0]])
            self.assertEqual(told[-1], [3, 0, 5, 1, 0, 11, 1, 11, 1], calls)

    def test_over_many_rows_of_calls(self):
        numbers = Numbers(4)
        results = 0
        for trial in range(40):
            calls = []
            for n in range(4):
                calls += stocked([(numbers.pick(0, 9), numbers.pick(-9, 9), 1, 0) for k in range(3)], n, 40)
                calls += controlled([(numbers.pick(0, 9), numbers.pick(-9, 9), 2)], n)
            for k in range(200):
                n = numbers.pick(0, 3)
                calls.append([
                    [READ, n, numbers.pick(-9, 9), numbers.pick(0, 1)], [READ, n, numbers.pick(-9, 9), 0],
                    [POINT, n, numbers.pick(0, 9), numbers.pick(-9, 9), 1, 0], [UNPOINT, n, numbers.pick(0, 3)],
                    [CONTROL, n, numbers.pick(0, 9), 1, 1], [CLEAR, n], [TICK, 1], [LOT, n, 50],
                    [TURN, n, 1, numbers.pick(-3, 3)], [CHANGED]][numbers.pick(0, 9)])
            told = ask(calls)
            now = 0
            kept = []
            for call, answer in zip(calls, told):
                now += call[1] if call[0] == TICK else 0
                if call[0] == READ and answer[0] >= 0:
                    self.assertEqual(answer[0], len(kept))
                    kept.append([now] + call[1:] + answer[1:])
            shown = ask(calls + [[SHOWN, k] for k in range(len(kept))])[len(calls):]
            self.assertEqual(shown, kept)
            results += len(kept)
        self.assertGreater(results, 400)


if __name__ == "__main__":
    unittest.main()
