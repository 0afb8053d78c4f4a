"""Exact fractions."""


def common_divisor(one, other):
    """The greatest number that divides both, which are from 0 on and not both 0."""
    while other != 0:
        rest = one % other
        one = other
        other = rest
    return one


class Fraction:
    """A fraction in lowest terms; the lower number handed in is above 0, and stays so."""

    def __init__(self, top, bottom):
        divisor = common_divisor(abs(top), bottom)
        self.top = top // divisor
        self.bottom = bottom // divisor


def whole(number):
    return Fraction(number, 1)


def plus(one, other):
    return Fraction(one.top * other.bottom + other.top * one.bottom, one.bottom * other.bottom)


def minus(one, other):
    return Fraction(one.top * other.bottom - other.top * one.bottom, one.bottom * other.bottom)


def times(one, other):
    return Fraction(one.top * other.top, one.bottom * other.bottom)


def over(one, other):
    """One divided by the other, which is above 0."""
    return Fraction(one.top * other.bottom, one.bottom * other.top)


def less(one, other):
    return one.top * other.bottom < other.top * one.bottom


def size_of(one):
    """The fraction as a number from 0 on."""
    return Fraction(abs(one.top), one.bottom)
