"""What a rising truth can be, if no reading is off by more than its bound."""

from risingcurves.lots import LAST_DOSE


def lowest_of(reading):
    return reading.response - reading.bound


def highest_of(reading):
    return reading.response + reading.bound


def clashes(one, other):
    return one.dose <= other.dose and highest_of(other) < lowest_of(one)


def first_clash(readings):
    """The numbers of two readings that clash, the one's the least there is, then the other's; or None."""
    for number, one in enumerate(readings):
        for other_number, other in enumerate(readings):
            if clashes(one, other):
                return [number, other_number]
    return None


def lower_bound(readings, dose):
    """The greatest of response less bound up to the dose, or None."""
    return max([lowest_of(reading) for reading in readings if reading.dose <= dose], default=None)


def upper_bound(readings, dose):
    """The least of response and bound together from the dose on, or None."""
    return min([highest_of(reading) for reading in readings if reading.dose >= dose], default=None)


def first_reaching(readings, low):
    """The first dose at which some truth is low or more: behind all readings that keep every truth below low."""
    return max([reading.dose + 1 for reading in readings if highest_of(reading) < low], default=0)


def last_keeping(readings, high):
    """The last dose at which some truth is high or less: ahead of all readings that keep every truth above high."""
    return min([reading.dose - 1 for reading in readings if lowest_of(reading) > high], default=LAST_DOSE)
