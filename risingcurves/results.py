"""Results, and what a lot tells of a response as it stands."""

from risingcurves.controls import shift_of
from risingcurves.controls import shift_refusal
from risingcurves.curve import Curve
from risingcurves.fraction import minus
from risingcurves.fraction import whole
from risingcurves.telling import told_doses

MOST_RESULTS = 100


class Result:
    """What was told of a response, with all that it was told by."""

    def __init__(self, time, lot_number, response, off, doses):
        self.time = time
        self.lot_number = lot_number
        self.response = response
        self.off = off
        self.doses = doses


class Standing:
    """A lot as it stands: its curve and its shift, each None if there is none."""

    def __init__(self, lot):
        self.curve = None
        self.shift = None
        if len(lot.readings) > 0:
            self.curve = Curve(lot.readings)
            if shift_refusal(self.curve, lot.controls) is None:
                self.shift = shift_of(self.curve, lot.controls)


def told_result(standing, response, off):
    """What is told of a response, with the shift taken off if off is 1; None if it can't be told."""
    if standing.curve is None:
        return None
    if off == 0:
        return told_doses(standing.curve, whole(response))
    if standing.shift is None:
        return None
    return told_doses(standing.curve, minus(whole(response), standing.shift))


def changed_results(lots, results):
    """The numbers of all results that their lot would tell otherwise as it stands, or couldn't tell, rising."""
    standings = {}
    for number in lots:
        standings[number] = Standing(lots[number])
    changed = []
    for number, result in enumerate(results):
        if told_result(standings[result.lot_number], result.response, result.off) != result.doses:
            changed.append(number)
    return changed
