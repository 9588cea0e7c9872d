"""Integers as the package means them, and what lists of them share."""

from math import gcd

DIGITS = "0123456789"
MOST_DIGITS = 4


def is_whole(value):
    """Whether any value is an integer, which True and False are not."""
    return isinstance(value, int) and not isinstance(value, bool)


def is_whole_from(value, low, high):
    """Whether any value is an integer from `low` to `high`."""
    return is_whole(value) and low <= value <= high


def read_whole(text):
    """The integer from 0 to 9999 that a string is, in decimal notation without a leading zero; else None."""
    if not 1 <= len(text) <= MOST_DIGITS or text[0] == "0" and len(text) > 1:
        return None
    for sign in text:
        if sign not in DIGITS:
            return None
    return int(text)


def common_divisor(wholes):
    """The greatest common divisor of a list of integers, 0 if all are 0."""
    divisor = 0
    for whole in wholes:
        divisor = gcd(divisor, whole)
        if divisor == 1:
            return 1
    return divisor


def in_lowest_terms(wholes):
    """A new list of the integers, not all 0, divided by their greatest common divisor."""
    divisor = common_divisor(wholes)
    return [whole // divisor for whole in wholes]


def dot(wholes, others):
    """The sum of the products of the integers that stand at the same places."""
    return sum([whole * other for whole, other in zip(wholes, others)])
