"""Promise 3: if no two readings clash, truth tells just what a truth can be at x, and range just where it can be from
lo to hi. Held against every rising row of small numbers that is within the readings' bounds."""

import unittest
from itertools import combinations_with_replacement

from tests.helper import CLASH, RANGE, TRUTH, Numbers, ask, stocked

LAST = 1000000

# readings have doses 0 to 3 and stay from -1 to 3: -2 and 4 stand for all that is beyond, the fifth place for all doses
# behind the last one
LOW, HIGH = -2, 4
ROWS = list(combinations_with_replacement(range(LOW, HIGH + 1), 5))


def made_up():
    numbers = Numbers(33)
    lots = [[(dose, 1, 1, bound)] for dose in range(4) for bound in range(3)]
    lots += [[(0, 0, 1, 1), (3, 2, 1, 1)], [(0, 0, 1, 0), (1, 2, 1, 0), (2, 2, 1, 1), (3, 3, 1, 0)]]
    for trial in range(220):
        readings = []
        for k in range(numbers.pick(1, 4)):
            bound = numbers.pick(0, 2)
            readings.append((numbers.pick(0, 3), numbers.pick(-1 + bound, 3 - bound), 1, bound))
        lots.append(readings)
    return lots


class PromiseThree(unittest.TestCase):
    @classmethod
    def setUpClass(cls):
        cls.lots = []
        for readings in made_up():
            truths = [row for row in ROWS if all(abs(row[d] - r) <= b for d, r, w, b in readings)]
            cls.lots.append((readings, truths))

    def test_clash_tells_just_if_there_is_no_truth(self):
        kinds = {True: 0, False: 0}
        for readings, truths in self.lots:
            told = ask(stocked(readings) + [[CLASH, 0]])[-1]
            self.assertEqual(told == [0], len(truths) > 0, readings)
            kinds[told == [0]] += 1
        self.assertGreater(min(kinds.values()), 40)

    def test_truth_tells_just_what_a_truth_can_be(self):
        for readings, truths in self.lots:
            told = ask(stocked(readings) + [[TRUTH, 0, x] for x in (0, 1, 2, 3, 4, 5, LAST)])[-7:]
            for place, answer in zip((0, 1, 2, 3, 4, 4, 4), told):
                if not truths:
                    self.assertEqual(answer, [-8], readings)
                    continue
                lower = answer[2] if answer[1] == 1 else LOW
                upper = answer[4] if answer[3] == 1 else HIGH
                self.assertEqual(sorted({row[place] for row in truths}), list(range(lower, upper + 1)), readings)
                # where no bound is told it can be anything, so also what no reading reaches
                self.assertEqual([answer[1] == 0, answer[3] == 0], [lower == LOW, upper == HIGH], readings)

    def test_range_tells_just_where_it_can_be(self):
        asked = [(lo, hi) for lo in range(LOW, HIGH + 1) for hi in range(lo, HIGH + 1)]
        none = 0
        for readings, truths in self.lots:
            told = ask(stocked(readings) + [[RANGE, 0, lo, hi] for lo, hi in asked])[-len(asked):]
            for (lo, hi), answer in zip(asked, told):
                places = [x for x in range(5) if any(lo <= row[x] <= hi for row in truths)]
                if not truths:
                    self.assertEqual(answer, [-8], readings)
                elif not places:
                    self.assertEqual(answer, [-9], (readings, lo, hi))
                    none += 1
                else:
                    last = LAST if places[-1] == 4 else places[-1]
                    self.assertEqual(answer, [places[0], last], (readings, lo, hi))
                    self.assertEqual(places, list(range(places[0], places[-1] + 1)))
        self.assertGreater(none, 20)


if __name__ == "__main__":
    unittest.main()
