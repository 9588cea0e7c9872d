import unittest
from fractions import Fraction
from random import Random

from fairpatch.errors import ByZero, InvalidNumber
from fairpatch.ratios import Ratio, as_ratio
from tests.samples import any_values

NO_NUMBERS = [None, True, False, "1", "", [1], (1,), {}, {"top": 1}, 1.0, Fraction(1), InvalidNumber(1)]


def random_whole(random):
    digits = random.choice((1, 1, 2, 5, 30, 60))
    return random.randrange(-10 ** digits, 10 ** digits + 1)


def random_number(random):
    """A number, and the Fraction of the same worth."""
    if random.random() < 0.3:
        whole = random_whole(random)
        return whole, Fraction(whole)
    top, bottom = random_whole(random), random_whole(random) or 7
    return Ratio(top, bottom), Fraction(top, bottom)


class RatioTests(unittest.TestCase):
    def same(self, ratio, fraction):
        self.assertIs(ratio.__class__, Ratio)
        self.assertEqual((ratio.top, ratio.bottom), (fraction.numerator, fraction.denominator))

    def test_lowest_terms(self):
        for top, bottom, told in [
            (6, 4, (3, 2)), (-6, 4, (-3, 2)), (6, -4, (-3, 2)), (-6, -4, (3, 2)), (0, -5, (0, 1)), (0, 5, (0, 1)),
            (7, 7, (1, 1)), (5, 1, (5, 1)), (10 ** 59, 4 * 10 ** 59, (1, 4)), (1, -1, (-1, 1)),
        ]:
            ratio = Ratio(top, bottom)
            self.assertEqual((ratio.top, ratio.bottom), told)
        self.assertEqual((Ratio(-9).top, Ratio(-9).bottom), (-9, 1))
        named = Ratio(bottom=-4, top=6)
        self.assertEqual((named.top, named.bottom), (-3, 2))

    def test_random_terms(self):
        random = Random(1)
        for _ in range(300):
            top, bottom = random_whole(random), random_whole(random) or 3
            self.same(Ratio(top, bottom), Fraction(top, bottom))

    def test_wrong_parts(self):
        wrong = object.__new__(Ratio)
        for given in [*NO_NUMBERS, wrong, Ratio(1)]:
            for bottom in (1, 0, "x", True):
                with self.assertRaises(InvalidNumber) as caught:
                    Ratio(given, bottom)
                self.assertIs(caught.exception.given, given)
            with self.assertRaises(InvalidNumber) as caught:
                Ratio(1, given)
            self.assertIs(caught.exception.given, given)

    def test_by_zero(self):
        for top in (0, 1, -3, 10 ** 60):
            with self.assertRaises(ByZero):
                Ratio(top, 0)

    def test_arithmetic(self):
        random = Random(2)
        for _ in range(400):
            number, plain = random_number(random)
            ratio, fraction = random_number(random)
            ratio = as_ratio(ratio)
            self.same(ratio + number, fraction + plain)
            self.same(number + ratio, plain + fraction)
            self.same(ratio - number, fraction - plain)
            self.same(number - ratio, plain - fraction)
            self.same(ratio * number, fraction * plain)
            self.same(number * ratio, plain * fraction)
            self.same(-ratio, -fraction)
            self.assertIs(ratio.below(number), fraction < plain)
            if plain:
                self.same(ratio.over(number), fraction / plain)
            self.assertIs(ratio == number, fraction == plain)
            self.assertIs(number == ratio, fraction == plain)
            self.same(ratio, fraction)

    def test_over_and_below_by_name(self):
        self.same(Ratio(1, 2).over(number=-3), Fraction(-1, 6))
        self.assertIs(Ratio(1, 2).below(number=Ratio(1, 2)), False)
        self.assertIs(Ratio(1, 2).below(1), True)
        self.assertIs(Ratio(-1, 2).below(-1), False)

    def test_over_and_below_wrong(self):
        for given in NO_NUMBERS:
            for call in (Ratio(1, 2).over, Ratio(0).over, Ratio(1, 2).below):
                with self.assertRaises(InvalidNumber) as caught:
                    call(given)
                self.assertIs(caught.exception.given, given)
        for nothing in (0, Ratio(0), Ratio(0, -4)):
            for ratio in (Ratio(1, 2), Ratio(0)):
                with self.assertRaises(ByZero):
                    ratio.over(nothing)

    def test_equal_to_numbers_alone(self):
        self.assertTrue(Ratio(4, 2) == 2 and 2 == Ratio(4, 2) and Ratio(1, 2) == Ratio(-2, -4))
        self.assertTrue(Ratio(1, 2) != Ratio(1, 3) and Ratio(1, 2) != 1 and not Ratio(3) != 3)
        for ratio in (Ratio(0), Ratio(1), Ratio(1, 2)):
            for other in [*NO_NUMBERS[:9], "1/2", InvalidNumber(1), *any_values()]:
                if isinstance(other, Ratio) or isinstance(other, int) and not isinstance(other, bool):
                    continue
                self.assertIs(ratio == other, False)
                self.assertIs(other == ratio, False)
                self.assertIs(ratio != other, True)

    def test_no_integer(self):
        self.assertNotIsInstance(Ratio(3), int)

    def test_text(self):
        for ratio, text in [
            (Ratio(-3, 2), "-3/2"), (Ratio(3, -2), "-3/2"), (Ratio(4, 2), "2"), (Ratio(0, -9), "0"), (Ratio(-7), "-7"),
            (Ratio(1, 10 ** 60), "1/1" + "0" * 60),
        ]:
            self.assertEqual(str(ratio), text)

    def test_as_ratio(self):
        self.same(as_ratio(value=5), Fraction(5))
        self.same(as_ratio(Ratio(-1, 3)), Fraction(-1, 3))
        ratio = Ratio(1, 3)
        self.assertIsNot(as_ratio(ratio), ratio)
        for given in NO_NUMBERS:
            with self.assertRaises(InvalidNumber) as caught:
                as_ratio(given)
            self.assertIs(caught.exception.given, given)


if __name__ == "__main__":
    unittest.main()
