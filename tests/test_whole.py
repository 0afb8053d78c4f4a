"""The whole: lists of calls of all 25 kinds, one behind another, held against the document's words a second time."""

import unittest
from math import gcd

from risingcurves.desk import answers
from tests.helper import (
    BLOCKS, CHANGED, CLASH, CLEAR, CONTROL, DOSE, FIT, GAP, LAST_TIME, LEAST_WORD, LOT, LOTS, MOST_WORD, POINT, POINTS,
    RANGE, READ, SHIFT, SHOWN, SQUARES, STEP, SUMS, TICK, TRIAL, TRUTH, TURN, UNPOINT, VALUE, Numbers, ask, controlled,
    flat, split, stocked, trial)
from tests.model import model_answers

# each refusal that a call has; -4 of tick lies too far off for 400 calls
LOT_REFUSALS = {-1, -2}
REFUSALS = {
    LOT: {-1, -3}, POINT: {-3, -4}, UNPOINT: {-3}, POINTS: set(), FIT: {-5}, BLOCKS: {-5}, SUMS: {-5}, SQUARES: {-5},
    TRIAL: {-3, -5}, VALUE: {-3, -5, -6}, DOSE: {-3, -5}, STEP: {-3, -5}, TRUTH: {-3, -5, -8}, CLASH: {-5},
    RANGE: {-3, -5, -8, -9}, CONTROL: {-3, -4}, CLEAR: set(), SHIFT: {-5, -6, -7}, GAP: {-5, -6}, TICK: {-1},
    READ: {-3, -4, -5, -6, -7, -9}, SHOWN: {-1}, CHANGED: set(), TURN: {-3, -4}, LOTS: set()}
for number in REFUSALS:
    if number not in (LOT, TICK, SHOWN, CHANGED, LOTS):
        REFUSALS[number] |= LOT_REFUSALS


class Maker:
    """Makes up calls; how far doses and responses reach, and how often a number is wrong, is told."""

    def __init__(self, seed, doses, responses, wrong):
        self.numbers = Numbers(seed)
        self.doses = doses
        self.responses = responses
        self.wrong = wrong

    def number(self, low, high, *edges):
        """A number from low to high, or now and then an edge or a wrong one."""
        if self.numbers.pick(1, 1000) <= self.wrong:
            far = [low - 1, high + 1, 1000001, -1000001, LEAST_WORD, MOST_WORD, 0] + list(edges)
            return far[self.numbers.pick(0, len(far) - 1)]
        return self.numbers.pick(low, high)

    def lot(self):
        return self.number(0, 3)

    def dose(self):
        return self.number(0, self.doses)

    def response(self):
        return self.number(-self.responses, self.responses)

    def weight(self):
        return self.number(1, 5, 1000, 1001)

    def bound(self):
        return self.number(self.responses // 2, 2 * self.responses)

    def values(self):
        return [self.response() for k in range(self.numbers.pick(0, 6))]

    def call(self, kind):
        """A call of this kind."""
        n = self.lot()
        rest = {
            LOT: lambda: [n, self.number(0, 40, LAST_TIME, LAST_TIME + 1)],
            POINT: lambda: [n, self.dose(), self.response(), self.weight(), self.bound()],
            UNPOINT: lambda: [n, self.number(0, 4)],
            TRIAL: lambda: trial(n, self.values())[1:],
            VALUE: lambda: [n, self.number(0, 3 * self.doses), self.number(1, 3)],
            DOSE: lambda: [n, self.response(), self.number(1, 3)],
            STEP: lambda: [n, self.dose()],
            TRUTH: lambda: [n, self.dose()],
            RANGE: lambda: [n, self.number(-self.responses, 0), self.number(-1, self.responses)],
            CONTROL: lambda: [n, self.dose(), self.response(), self.weight()],
            GAP: lambda: [n, self.lot()],
            TICK: lambda: [self.number(1, 3, 1000000000, 1000000001)],
            READ: lambda: [n, self.response(), self.number(0, 1, 2)],
            SHOWN: lambda: [self.number(0, 60)],
            CHANGED: lambda: [],
            TURN: lambda: [n, self.number(1, 2), self.number(-2, 2)],
            LOTS: lambda: []}
        return [kind] + rest.get(kind, lambda: [n])()

    def calls(self, count, kinds):
        return [self.call(kinds[self.numbers.pick(0, len(kinds) - 1)]) for k in range(count)]


KINDS = list(range(25))
# what fills lots, again and again, so that the others have something to tell of
FILLING = KINDS + [POINT] * 14 + [CONTROL] * 3 + [READ] * 3
ASKING = [kind for kind in KINDS if kind not in (LOT, UNPOINT, TURN, TICK)] + [POINT] * 3


def many_lists():
    lists = []
    for seed in range(12):
        lists.append(Maker(seed, 9, 6, 30).calls(400, FILLING))
        lists.append(Maker(100 + seed, 30, 40, 5).calls(400, FILLING))
        lists.append(Maker(200 + seed, 9, 6, 300).calls(150, FILLING))
    for seed in range(6):
        maker = Maker(300 + seed, 1000000, 1000000, 10)
        lists.append([[LOT, n, 60] for n in range(4)] + maker.calls(396, ASKING))
        maker = Maker(400 + seed, 12, 20, 10)
        start = stocked([(k % 13, k, 1, 20) for k in range(10)], 1, 20) + controlled([(3, 4, 2)], 1)
        lists.append(start + maker.calls(380, ASKING + [READ] * 20))
    # readings that rise, with doses far apart: some don't clash, and some leave a truth no room
    for seed in range(6):
        maker = Maker(500 + seed, 9, 6, 20)
        start = flat_lots([[(k, 3 * k - 4, 1, seed % 2) for k in range(4)], [(0, 2, 1, 0), (9, 3, 1, 0)]])
        kinds = [RANGE] * 6 + [TRUTH, CLASH, STEP, GAP, SHIFT, VALUE, READ, CHANGED, LOTS]
        lists.append(start + maker.calls(300, kinds))
    lists.append(full_lists())
    return lists


def flat_lots(lots):
    return [call for n, readings in enumerate(lots) for call in stocked(readings, n)]


def full_lists():
    """40 readings, 20 controls, 100 results, and one more of each."""
    calls = stocked([(k, k * k % 37, 1 + k % 7, 3) for k in range(41)]) + controlled([(k, k, k + 1) for k in range(21)])
    calls += [[READ, 0, k % 40, k % 2] for k in range(101)]
    calls += [[POINT, 0, 3, 5, 6, 7], [UNPOINT, 0, 5], [CHANGED], [POINT, 0, 3, 5, 6, 7], [CHANGED], [TURN, 0, 2, 1]]
    calls += [[TURN, 0, 1000, 1000000], [TURN, 0, 1, 1000000], [TURN, 0, 1, -900000], [TURN, 0, 1, 900000]]
    return calls + [[SHOWN, k] for k in range(102)] + [[CHANGED], [LOTS]]


class AgainstTheModel(unittest.TestCase):
    @classmethod
    def setUpClass(cls):
        cls.lists = many_lists()
        cls.told = [ask(calls) for calls in cls.lists]

    def test_the_same_answers(self):
        for calls, told in zip(self.lists, self.told):
            for k, (call, answer, other) in enumerate(zip(calls, told, model_answers(calls))):
                self.assertEqual(answer, other, (calls[:k], call))

    def test_each_call_is_answered_and_refused_in_each_way(self):
        seen = {number: set() for number in range(25)}
        answered = set()
        for calls, told in zip(self.lists, self.told):
            for call, answer in zip(calls, told):
                if answer[0] < 0:
                    self.assertEqual(len(answer), 1, call)
                    seen[call[0]].add(answer[0])
                else:
                    answered.add(call[0])
        self.assertEqual(answered, set(range(25)))
        for number in range(25):
            self.assertEqual(seen[number], REFUSALS[number], number)

    def test_fractions_are_in_lowest_terms(self):
        for calls, told in zip(self.lists, self.told):
            for call, answer in zip(calls, told):
                for top, bottom in fractions_in(call[0], answer):
                    self.assertGreater(bottom, 0, call)
                    self.assertEqual(gcd(top, bottom), 1, call)

    def test_calls_that_are_refused_or_only_ask_can_be_left_out(self):
        # but for those that make a result or let time pass, which are no refusals then
        changing = (LOT, POINT, UNPOINT, CONTROL, CLEAR, TICK, READ, TURN)
        for calls, told in zip(self.lists, self.told):
            kept = [call for call, answer in zip(calls, told) if answer[0] >= 0 and call[0] in changing]
            kept_told = [answer for call, answer in zip(calls, told) if answer[0] >= 0 and call[0] in changing]
            ending = [[LOTS], [CHANGED]] + [[POINTS, n] for n in range(4)] + [[SHIFT, n] for n in range(4)]
            self.assertEqual(ask(kept + ending), kept_told + ask(calls + ending)[len(calls):])


def fractions_in(number, answer):
    """The fractions that an answer tells, two numbers each."""
    if answer[0] < 0:
        return []
    if number == FIT:
        return list(zip(answer[3::3], answer[4::3]))
    if number == BLOCKS:
        return list(zip(answer[6::6], answer[7::6]))
    begin = {SUMS: 2, SQUARES: 0, VALUE: 1, DOSE: 1, SHIFT: 1, READ: 2, SHOWN: 5}
    if number in begin:
        return list(zip(answer[begin[number]::2], answer[begin[number] + 1::2]))
    if number == GAP:
        return [(answer[0], answer[1])]
    return []


class Long(unittest.TestCase):
    """As long as can be: 400 calls, 16000 numbers."""

    def long_list(self):
        calls = stocked([(k * 1000, k * 37 % 101, 1 + k % 9, 200) for k in range(40)])
        calls += [[call] if call in (CHANGED, LOTS) else Maker(call, 40, 40, 0).call(call) for call in range(25)]
        calls += stocked([(k * 1000, k * 37 % 101, 1 + k % 9, 200) for k in range(40)])
        calls += [trial(0, [k] * 40) for k in range(12)] + [[FIT, 0], [READ, 0, 50, 0], [SHOWN, 0], [CHANGED]]
        # rows of 60 up to 16000 numbers, a shorter one, and up to 400 calls the shortest call there is
        while len(flat(calls)) + 63 + 3 + (400 - len(calls) - 2) <= 16000:
            calls.append(trial(0, [len(calls)] * 60))
        calls += [[LOTS]] * (400 - len(calls) - 1)
        return calls + [trial(0, [7] * (16000 - len(flat(calls)) - 3))]

    def test_400_calls_and_16000_numbers(self):
        calls = self.long_list()
        self.assertEqual([len(calls), len(flat(calls))], [400, 16000])
        self.assertLessEqual(max(call[2] for call in calls if call[0] == TRIAL), 60)
        self.assertEqual({call[0] for call in calls}, set(range(25)))
        self.assertEqual(ask(calls), model_answers(calls))

    def test_the_same_list_twice_and_as_it_was(self):
        for calls in [self.long_list()] + many_lists()[::7]:
            numbers = flat(calls)
            before = list(numbers)
            first = answers(numbers)
            self.assertEqual(numbers, before)
            self.assertEqual(answers(numbers), first)
            self.assertEqual(len(split(first)), len(calls))
            self.assertEqual({type(number) for number in first}, {int})

    def test_400_changes_of_a_lot_with_100_results(self):
        # shifts of many digits, and what was told is asked once more after each of them
        calls = stocked([(k // 2 * 47111, k * 1009 + k % 3 * 17, 500 + 17 * k % 499, 0) for k in range(40)])
        calls += controlled([(k * 44497 + 5, k * 2003, 501 + 29 * k % 499) for k in range(20)])
        calls += [[READ, 0, 100 + 390 * k, 1] for k in range(100)]
        calls += [[TURN, 0, 1, 1], [CHANGED]] * ((400 - len(calls)) // 2)
        told = ask(calls)
        self.assertGreater(max(len(str(answer[-1])) for call, answer in zip(calls, told) if call[0] == READ), 50)
        # each turn lifts the line by 1 and leaves the shift: what was between is told of another dose
        between = [k for k in range(100) if told[61 + k][1] == 0]
        self.assertGreater(len(between), 60)
        self.assertEqual([k for k in between if k not in told[62 + 100][2:]], [])


if __name__ == "__main__":
    unittest.main()
