"""Lots and their readings."""

MOST_READINGS = 40
LAST_DOSE = 1000000
MOST_RESPONSE = 1000000
MOST_WEIGHT = 1000
MOST_BOUND = 1000000


class Reading:
    def __init__(self, dose, response, weight, bound):
        self.dose = dose
        self.response = response
        self.weight = weight
        self.bound = bound


class Lot:
    def __init__(self, good_until):
        self.good_until = good_until
        self.readings = []


def is_dose(number):
    return 0 <= number <= LAST_DOSE


def is_response(number):
    return -MOST_RESPONSE <= number <= MOST_RESPONSE


def is_weight(number):
    return 1 <= number <= MOST_WEIGHT


def is_bound(number):
    return 0 <= number <= MOST_BOUND


def is_reading(reading):
    """Whether each number of the reading is in its range."""
    if not is_dose(reading.dose) or not is_response(reading.response):
        return False
    return is_weight(reading.weight) and is_bound(reading.bound)
