"""Whole numbers that are told against one another, in lowest terms."""

from math import gcd


def divisor(numbers):
    """Tell the greatest number that goes into all, 0 where all are nought."""
    common = 0
    for number in numbers:
        common = gcd(common, number)
    return common


def lowest(tops, bottom):
    """Tell tops over a shared bottom in lowest terms, the tops as a tuple."""
    common = gcd(divisor(tops), bottom)
    return tuple([top // common for top in tops]), bottom // common


def fraction(top, bottom):
    """Tell a fraction, its bottom above nought, in lowest terms."""
    tops, shared = lowest([top], bottom)
    return tops[0], shared


def fractions(tops, bottom):
    """List the tops over a shared bottom, each in lowest terms by itself."""
    return [fraction(top, bottom) for top in tops]


def is_less(one, other):
    """Tell whether one fraction is less than another."""
    return one[0] * other[1] < other[0] * one[1]
