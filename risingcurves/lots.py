"""Lots, their readings and their controls."""

LOT_COUNT = 4
MOST_READINGS = 40
MOST_CONTROLS = 20
LAST_TIME = 4611686018427387904
LAST_DOSE = 1000000
MOST_RESPONSE = 1000000
MOST_WEIGHT = 1000
MOST_BOUND = 1000000


class Reading:
    def __init__(self, dose, response, weight, bound):
        self.dose = dose
        self.response = response
        self.weight = weight
        self.bound = bound


class Control:
    def __init__(self, dose, response, weight):
        self.dose = dose
        self.response = response
        self.weight = weight


class Lot:
    def __init__(self, good_until):
        self.good_until = good_until
        self.readings = []
        self.controls = []


def is_time(number):
    return 0 <= number <= LAST_TIME


def is_dose(number):
    return 0 <= number <= LAST_DOSE


def is_response(number):
    return -MOST_RESPONSE <= number <= MOST_RESPONSE


def is_weight(number):
    return 1 <= number <= MOST_WEIGHT


def is_bound(number):
    return 0 <= number <= MOST_BOUND


def is_control(control):
    """Whether each number of the control is in its range; a reading has these numbers too."""
    return is_dose(control.dose) and is_response(control.response) and is_weight(control.weight)


def is_reading(reading):
    """Whether each number of the reading is in its range."""
    return is_control(reading) and is_bound(reading.bound)


def turned_reading(reading, factor, added):
    return Reading(reading.dose, factor * reading.response + added, reading.weight, factor * reading.bound)


def turned_control(control, factor, added):
    return Control(control.dose, factor * control.response + added, control.weight)
