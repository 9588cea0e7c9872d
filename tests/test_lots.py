import unittest
from fractions import Fraction
from random import Random

from fairpatch.errors import InvalidBlend, InvalidLot, InvalidLots, InvalidNumber, InvalidPayoff
from fairpatch.lots import is_lot, mean, mixed, sure
from fairpatch.ratios import Ratio
from tests.samples import any_values, mixture, random_lot

NO_COUNTS = [None, True, False, 2, 10, 0, -3, "3", (3,), [3], Ratio(3), 10 ** 60]
NO_LOTS_OF_3 = [
    None, True, 3, "", "abc", (), (1,), (1, 0), (1, 0, 0, 0), [1, 0, 0], (0, 0, 0), (2, 0, 4), (0, 2, 0), (1, -1, 1),
    (-1, 0, 0), (1, True, 0), (False, 0, 1), (1, 0, None), (1, "0", 0), (Ratio(1), 0, 0), (1, (0,), 0), {"a": 1},
    (10 ** 59, 10 ** 59, 0),
]


def as_fraction(number):
    return Fraction(number.top, number.bottom) if isinstance(number, Ratio) else Fraction(number)


class LotTests(unittest.TestCase):
    def refused(self, error, given, call, *arguments):
        with self.assertRaises(error) as caught:
            call(*arguments)
        self.assertIs(caught.exception.given, given)

    def test_is_lot(self):
        for many, value in [
            (3, (1, 0, 0)), (3, (0, 0, 1)), (3, (2, 3, 4)), (3, (6, 10, 15)), (4, (1, 1, 1, 1)),
            (8, (0,) * 7 + (1,)), (9, (1,) + (10 ** 59,) * 8), (3, (10 ** 59, 10 ** 59 + 1, 0)),
        ]:
            self.assertIs(is_lot(many, value), True)
            for other in set(range(3, 10)) - {many}:
                self.assertIs(is_lot(other, value), False)
        self.assertIs(is_lot(value=(1, 0, 0), many=3), True)

    def test_is_lot_of_other_values(self):
        for value in [*NO_LOTS_OF_3, *any_values()]:
            self.assertIs(is_lot(3, value), False, value)
        for many in NO_COUNTS:
            for value in [(1, 0, 0), None, [many]]:
                self.refused(InvalidNumber, many, is_lot, many, value)

    def test_sure(self):
        self.assertEqual(sure(3, 0), (1, 0, 0))
        self.assertEqual(sure(outcome=8, many=9), (0, 0, 0, 0, 0, 0, 0, 0, 1))
        for many in range(3, 10):
            for outcome in range(many):
                self.assertEqual(sure(many, outcome), tuple(int(at == outcome) for at in range(many)))
                self.assertTrue(is_lot(many, sure(many, outcome)))
            for outcome in [many, -1, True, False, None, "0", Ratio(0), (0,)]:
                self.refused(InvalidNumber, outcome, sure, many, outcome)
        for many in NO_COUNTS:
            self.refused(InvalidNumber, many, sure, many, 0)
            self.refused(InvalidNumber, many, sure, many, "wrong, too")

    def test_mean(self):
        self.assertEqual(str(mean((1, 0, 2), [6, 1, -1])), "4/3")
        self.assertEqual(mean(payoff=(0, Ratio(1, 2), 3), lot=(0, 1, 1)), Ratio(7, 4))
        random = Random(3)
        for _ in range(200):
            lot = random_lot(random, random.randrange(3, 10), random.choice((1, 5, 10 ** 60 - 1)))
            payoff = [random.choice((random.randrange(-9, 9), Ratio(random.randrange(-9, 9), random.randrange(1, 9)),
                                     random.randrange(10 ** 59))) for _ in lot]
            kept = list(payoff)
            told = mean(lot, payoff)
            plain = sum(as_fraction(number) * part for number, part in zip(payoff, lot)) / sum(lot)
            self.assertEqual((told.top, told.bottom), (plain.numerator, plain.denominator))
            self.assertTrue(all(one is other for one, other in zip(payoff, kept)))
            self.assertEqual(mean(lot, tuple(payoff)), told)

    def test_mean_refuses(self):
        wrong_payoffs = [
            None, 3, "123", [], [1, 2], [1, 2, 3, 4], {"a": 1}, [1, 2, True], [False, 0, 0], [1, None, 2], [1, "2", 3],
            [1, 2, [3]], Ratio(1),
        ]
        for lot in [*NO_LOTS_OF_3, (1,) * 10, (1, 1)]:
            if lot == (1, 0, 0, 0):
                continue
            self.refused(InvalidLot, lot, mean, lot, [1, 2, 3])
            self.refused(InvalidLot, lot, mean, lot, None)
        for payoff in wrong_payoffs:
            self.refused(InvalidPayoff, payoff, mean, (1, 0, 2), payoff)

    def test_mixed(self):
        self.assertEqual(mixed([(1, 0, 0), (0, 1, 1)], [1, 2]), (1, 1, 1))
        self.assertEqual(mixed(weights=[0, Ratio(5, 7)], lots=((1, 0, 0), (0, 1, 1))), (0, 1, 1))
        self.assertEqual(mixed([(3, 2, 1)], (10 ** 60,)), (3, 2, 1))
        self.assertEqual(mixed([(1, 0, 0), (1, 0, 0), (0, 0, 1)], [1, 1, 2]), (1, 0, 1))
        self.assertEqual(mixed([(1, 0, 0), (0, 1, 0)], [Ratio(1, 3), Ratio(1, 6)]), (2, 1, 0))
        self.assertEqual(mixed([(1, 1, 1), (1, 0, 0)], [1, 1]), (4, 1, 1))

    def test_mixed_at_random(self):
        random = Random(4)
        for count in [1, 2, 3, 7, 64]:
            for many in (3, 5, 9):
                most = random.choice((1, 6, 10 ** 60 - 1))
                lots = [random_lot(random, many, most) for _ in range(count)]
                weights = [random.randrange(0, random.choice((3, 10 ** 60))) for _ in lots]
                weights[random.randrange(count)] = 2
                told = mixed(lots, weights)
                self.assertEqual(told, mixture(lots, weights))
                self.assertTrue(is_lot(many, told))
                bottom = random.randrange(1, 10 ** 60)
                self.assertEqual(mixed(tuple(lots), tuple(Ratio(weight, bottom) for weight in weights)), told)
                self.assertEqual(mixed(lots[::-1], weights[::-1]), told)

    def test_mixed_refuses(self):
        good = [(1, 0, 0), (0, 1, 1)]
        for lots in [
            None, (), [], {}, "ab", good[0], [None], [good], [[1, 0, 0]], [(1, 0, 0), (1, 0, 0, 0)], [(1, 0)],
            [(1,) * 10], good * 33, [(1, 0, 0), (2, 0, 4)], [(True, 0, 0)], {(1, 0, 0): 1}, 2, (1, 0, 0),
        ]:
            self.refused(InvalidLots, lots, mixed, lots, [1, 2])
            self.refused(InvalidLots, lots, mixed, lots, None)
        for weights in [
            None, 1, "12", [], [1], [1, 2, 3], [0, 0], [Ratio(0), 0], [1, -1], [1, Ratio(-1, 9)], [1, True], [False, 1],
            [None, 1], [1, "1"], {"a": 1, "b": 2}, [[1], [2]],
        ]:
            self.refused(InvalidBlend, weights, mixed, good, weights)
        self.assertEqual(mixed(good * 32, [1] * 64), (2, 1, 1))


if __name__ == "__main__":
    unittest.main()
