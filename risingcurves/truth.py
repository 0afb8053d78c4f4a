"""What a rising truth can be, if no reading is off by more than its bound."""


def lowest_of(reading):
    return reading.response - reading.bound


def highest_of(reading):
    return reading.response + reading.bound


def clashes(one, other):
    return one.dose <= other.dose and highest_of(other) < lowest_of(one)


def two_clash(readings):
    for one in readings:
        for other in readings:
            if clashes(one, other):
                return True
    return False


def lower_bound(readings, dose):
    """The greatest of response less bound up to the dose, or None."""
    return max([lowest_of(reading) for reading in readings if reading.dose <= dose], default=None)


def upper_bound(readings, dose):
    """The least of response and bound together from the dose on, or None."""
    return min([highest_of(reading) for reading in readings if reading.dose >= dose], default=None)
