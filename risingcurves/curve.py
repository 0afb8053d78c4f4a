"""The rising curve that is off from all readings by the least squares."""

from risingcurves.fraction import Fraction
from risingcurves.fraction import minus
from risingcurves.fraction import plus
from risingcurves.fraction import times
from risingcurves.fraction import whole


class Block:
    """Doses that follow one another, with the weights of their readings and the weighted responses summed up."""

    def __init__(self, first, last, size, weight, total):
        self.first = first
        self.last = last
        self.size = size
        self.weight = weight
        self.total = total


class Curve:
    """The curve of readings, of which there is one at least."""

    def __init__(self, readings):
        self.singles = single_blocks(readings)
        self.doses = [single.first for single in self.singles]
        self.whole_doses = [whole(dose) for dose in self.doses]
        self.blocks = pooled(self.singles)
        self.heights = heights_of(self.blocks)


def single_blocks(readings):
    """A block for each dose alone, rising."""
    weights = {}
    totals = {}
    for reading in readings:
        dose = reading.dose
        weights[dose] = weights.get(dose, 0) + reading.weight
        totals[dose] = totals.get(dose, 0) + reading.weight * reading.response
    return [Block(dose, dose, 1, weights[dose], totals[dose]) for dose in sorted(weights)]


def joined(lower, upper):
    size = lower.size + upper.size
    return Block(lower.first, upper.last, size, lower.weight + upper.weight, lower.total + upper.total)


def rises(lower, upper):
    """Whether the mean of the upper block is greater than that of the lower one."""
    return lower.total * upper.weight < upper.total * lower.weight


def pooled(singles):
    """The curve's blocks: a block that does not rise above the one ahead of it is joined to it.

    Equal means are joined too, since a block is as many doses of one value as there are.
    """
    blocks = []
    for single in singles:
        block = single
        while len(blocks) > 0 and not rises(blocks[-1], block):
            block = joined(blocks.pop(), block)
        blocks.append(block)
    return blocks


def block_height(block):
    return Fraction(block.total, block.weight)


def heights_of(blocks):
    """The curve's values, dose by dose."""
    heights = []
    for block in blocks:
        height = block_height(block)
        for place in range(block.size):
            heights.append(height)
    return heights


def running_sums(curve):
    """For each dose the sum, over all readings up to it, of weight times (response - value)."""
    running = whole(0)
    sums = []
    for single, height in zip(curve.singles, curve.heights):
        fitted = times(whole(single.weight), height)
        running = plus(running, minus(whole(single.total), fitted))
        sums.append(running)
    return sums


def square_sum(readings, doses, heights):
    """The sum, over all readings, of weight times (response - height at its dose) squared."""
    height_at = dict(zip(doses, heights))
    squares = whole(0)
    for reading in readings:
        off = minus(whole(reading.response), height_at[reading.dose])
        squares = plus(squares, times(whole(reading.weight), times(off, off)))
    return squares


def never_falls(numbers):
    for place in range(1, len(numbers)):
        if numbers[place] < numbers[place - 1]:
            return False
    return True
