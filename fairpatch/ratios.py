"""Quotients of integers, and arithmetic with them."""

from math import gcd

from fairpatch.errors import ByZero, InvalidNumber
from fairpatch.wholes import is_whole


def is_number(value):
    """Whether any value is a number: an integer or a Ratio."""
    return isinstance(value, Ratio) or is_whole(value)


def as_ratio(value):
    """A Ratio that equals a number."""
    if isinstance(value, Ratio):
        return Ratio(value.top, value.bottom)
    return Ratio(value)


class Ratio:
    """The quotient of two integers, in lowest terms with a bottom above 0."""

    def __init__(self, top, bottom=1):
        if not is_whole(top):
            raise InvalidNumber(top)
        if not is_whole(bottom):
            raise InvalidNumber(bottom)
        if bottom == 0:
            raise ByZero()
        divisor = gcd(top, bottom)
        if bottom < 0:
            divisor = -divisor
        self.top = top // divisor
        self.bottom = bottom // divisor

    def __add__(self, other):
        if isinstance(other, Ratio):
            top = self.top * other.bottom + other.top * self.bottom
            return Ratio(top, self.bottom * other.bottom)
        return Ratio(self.top + other * self.bottom, self.bottom)

    def __radd__(self, other):
        return self + other

    def __neg__(self):
        return Ratio(-self.top, self.bottom)

    def __sub__(self, other):
        return self + -other

    def __rsub__(self, other):
        return -self + other

    def __mul__(self, other):
        if isinstance(other, Ratio):
            return Ratio(self.top * other.top, self.bottom * other.bottom)
        return Ratio(self.top * other, self.bottom)

    def __rmul__(self, other):
        return self * other

    def __eq__(self, other):
        if isinstance(other, Ratio):
            return self.top == other.top and self.bottom == other.bottom
        return is_whole(other) and self.bottom == 1 and self.top == other

    def __str__(self):
        if self.bottom == 1:
            return str(self.top)
        return f"{self.top}/{self.bottom}"

    def over(self, number):
        """The Ratio divided by a number."""
        other = as_ratio(number)
        return Ratio(self.top * other.bottom, self.bottom * other.top)

    def below(self, number):
        """Whether the Ratio is less than a number."""
        other = as_ratio(number)
        return self.top * other.bottom < other.top * self.bottom
