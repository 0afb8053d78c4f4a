"""What the tests share: calls by their names, answers split one from another, made-up readings."""

from fractions import Fraction

from risingcurves.desk import answers

(LOT, POINT, UNPOINT, POINTS, FIT, BLOCKS, SUMS, SQUARES, TRIAL, VALUE, DOSE, STEP, TRUTH, CLASH, RANGE, CONTROL, CLEAR,
 SHIFT, GAP, TICK, READ, SHOWN, CHANGED, TURN, LOTS) = range(25)

LEAST_WORD = -2 ** 63
MOST_WORD = 2 ** 63 - 1
LAST_TIME = 4611686018427387904

# dose, response, weight, bound; the values are 4, 13/2, 13/2, 9
READINGS = [(10, 4, 1, 0), (20, 10, 2, 0), (30, 5, 3, 0), (20, 4, 1, 0), (40, 9, 1, 0)]


def trial(n, values):
    return [TRIAL, n, len(values)] + list(values)


def split(numbers):
    """The answers one by one, out of the one list that holds them with their counts."""
    parts = []
    place = 0
    while place < len(numbers):
        end = place + 1 + numbers[place]
        assert numbers[place] >= 1 and end <= len(numbers), numbers
        parts.append(numbers[place + 1:end])
        place = end
    return parts


def flat(calls):
    return [number for call in calls for number in call]


def ask(calls):
    """The answers, one list for each call."""
    parts = split(answers(flat(calls)))
    assert len(parts) == len(calls), (calls, parts)
    return parts


def stocked(readings, n=0, until=100):
    """The calls that make a lot with these readings."""
    return [[LOT, n, until]] + [[POINT, n] + list(reading) for reading in readings]


def controlled(controls, n=0):
    """The calls that give a lot these controls."""
    return [[CONTROL, n] + list(control) for control in controls]


def ask_of(readings, call):
    """The answer to one call on lot 0 with these readings."""
    return ask(stocked(readings) + [call])[-1]


def pairs(numbers):
    """Fractions told as two numbers each."""
    return [Fraction(numbers[k], numbers[k + 1]) for k in range(0, len(numbers), 2)]


class Numbers:
    """A row of made-up numbers that is the same each time."""

    def __init__(self, seed):
        self.state = seed

    def pick(self, low, high):
        self.state = (self.state * 6364136223846793005 + 1442695040888963407) % 2 ** 64
        return low + (self.state >> 33) % (high - low + 1)


def made_up_lots():
    """Many lots of readings: one, 40, doses again and again, equal values, falling, rising, mixed."""
    lots = [
        [(0, 0, 1, 0)],
        [(1000000, -1000000, 1000, 1000000)],
        [(5, -7, 3, 1)],
        [(5, 1, 1, 0), (5, 2, 1, 0), (5, 4, 1, 0)],
        [(7, 3, k, 0) for k in range(1, 41)],
        [(k, 3, 1 + k % 4, 0) for k in range(40)],
        [(k, 40 - k, 1, 0) for k in range(40)],
        [(k, 40 - k, 1 + k * 7 % 11, 0) for k in range(40)],
        [(k, k * k, 1 + k % 3, 0) for k in range(40)],
        [(40 - k, 40 - k, 1, 0) for k in range(40)],
        [(k // 4, k * 17 % 23, 1 + k % 5, 0) for k in range(40)],
        [(k * 25000, (-1) ** k * 1000000, 1 + 999 * (k % 2), 0) for k in range(40)],
        [(1, 2, 1, 0), (2, 1, 1, 0), (3, 1, 1, 0), (4, 2, 1, 0)],
        [(1, 0, 1, 0), (2, 2, 1, 0), (3, 0, 1, 0), (4, 1, 1, 0)],
    ]
    numbers = Numbers(20)
    for size in list(range(1, 41)) + [2, 3, 3, 4, 4, 4, 5, 5, 6, 7, 8]:
        for last_dose, spread, heaviest in ((3, 4, 3), (12, 20, 1), (60, 9, 9), (1000000, 1000000, 1000)):
            lots.append([
                (numbers.pick(0, last_dose), numbers.pick(-spread, spread), numbers.pick(1, heaviest), 0)
                for k in range(size)])
    for size in (10, 25, 40):
        for slope in (-3, -1, 1, 3):
            lots.append([
                (k // 2, slope * k + numbers.pick(-6, 6), numbers.pick(1, 20), 0) for k in range(size)])
    return lots
