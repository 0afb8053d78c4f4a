"""Promise 2: a dose at which the line is is at most the last dose told of r just if the line there is at most r, and at
least the first one just if it is at least r."""

import unittest
from fractions import Fraction

from tests.helper import CONTROL, DOSE, FIT, READ, SHIFT, VALUE, Numbers, ask, made_up_lots, pairs, stocked


def asked_doses(doses, numbers):
    """Doses at which the line is: the doses, some between, and the ones as near to a dose as can be asked for."""
    asked = {Fraction(dose) for dose in doses}
    for k in range(len(doses) - 1):
        asked.add(Fraction(doses[k] + doses[k + 1], 2))
        asked.add(doses[k] + Fraction(1, 1000))
        asked.add(doses[k + 1] - Fraction(1, 1000))
        b = numbers.pick(1, 1000)
        asked.add(Fraction(numbers.pick(doses[k] * b, doses[k + 1] * b), b))
    return sorted(asked)


def asked_responses(values, numbers):
    """Responses: the values, some between, and the ones as near to a value as can be asked for."""
    asked = {Fraction(values[0] // 1 - 1), Fraction(values[-1] // 1 + 2), Fraction(-1000000), Fraction(1000000)}
    for k, value in enumerate(values):
        b = min(value.denominator, 1000)
        a = value * b // 1
        asked |= {Fraction(a, b), Fraction(a + 1, b), Fraction(a, b) - Fraction(1, 1000)}
        if k > 0 and values[k - 1] < value:
            b = numbers.pick(1, 1000)
            asked.add(Fraction(numbers.pick(int(values[k - 1] * b // 1), int(value * b // 1)), b))
    fitting = [r for r in asked if r.denominator <= 1000 and abs(r) <= 1000000]
    return sorted(fitting)


class PromiseTwo(unittest.TestCase):
    def check(self, r, told, line):
        """What was told of r, against the line at many doses."""
        if told == [1]:
            self.assertTrue(all(value > r for dose, value in line), r)
            return
        if told == [2]:
            self.assertTrue(all(value < r for dose, value in line), r)
            return
        self.assertEqual([told[0], len(told)], [0, 5])
        first, last = pairs(told[1:])
        self.assertLessEqual(first, last)
        for dose, value in line:
            self.assertEqual(dose <= last, value <= r, (r, dose))
            self.assertEqual(dose >= first, value >= r, (r, dose))

    def line_of(self, readings, asked):
        told = []
        for begin in range(0, len(asked), 300):
            part = asked[begin:begin + 300]
            told += ask(stocked(readings) + [[VALUE, 0] + [d.numerator, d.denominator] for d in part])[-len(part):]
        return [(dose, Fraction(answer[1], answer[2])) for dose, answer in zip(asked, told)]

    def test_over_many_lots_and_many_responses(self):
        numbers = Numbers(2)
        kinds = {0: 0, 1: 0, 2: 0}
        flat = 0
        for readings in made_up_lots()[::2]:
            fit = ask(stocked(readings) + [[FIT, 0]])[-1]
            doses = fit[2::3]
            values = [Fraction(fit[k], fit[k + 1]) for k in range(3, len(fit), 3)]
            line = self.line_of(readings, asked_doses(doses, numbers))
            asked = asked_responses(values, numbers)
            told = ask(stocked(readings) + [[DOSE, 0, r.numerator, r.denominator] for r in asked])[-len(asked):]
            for r, answer in zip(asked, told):
                self.check(r, answer, line)
                kinds[answer[0]] += 1
                flat += 1 if answer[0] == 0 and answer[1:3] != answer[3:5] else 0
        self.assertGreater(min(kinds.values()), 150)
        self.assertGreater(flat, 50)

    def test_the_line_at_a_dose_that_was_told(self):
        # doses told of r that can be asked for: the line has the value r there
        seen = 0
        for readings in made_up_lots()[::4]:
            responses = list(range(-8, 9))
            told = ask(stocked(readings) + [[DOSE, 0, r, 1] for r in responses])[-len(responses):]
            for r, answer in zip(responses, told):
                for dose in pairs(answer[1:]):
                    if dose.denominator <= 1000:
                        self.assertEqual(self.line_of(readings, [dose]), [(dose, r)])
                        seen += 1
        self.assertGreater(seen, 200)

    def test_of_results_with_the_shift_taken_off(self):
        numbers = Numbers(22)
        for readings in made_up_lots()[::8]:
            doses = sorted({reading[0] for reading in readings})
            spread = max(abs(reading[1]) for reading in readings)
            controls = [
                [CONTROL, 0, numbers.pick(doses[0], doses[-1]), numbers.pick(-spread, spread), numbers.pick(1, 9)]
                for k in range(3)]
            responses = [numbers.pick(-spread, spread) for k in range(20)]
            told = ask(stocked(readings) + controls + [[SHIFT, 0]] + [[READ, 0, r, 1] for r in responses])[-21:]
            shift = Fraction(told[0][1], told[0][2])
            line = self.line_of(readings, asked_doses(doses, numbers))
            for k, r in enumerate(responses):
                self.assertEqual(told[k + 1][0], k)
                self.check(r - shift, told[k + 1][1:], line)


if __name__ == "__main__":
    unittest.main()
