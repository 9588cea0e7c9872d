import time
import unittest
from fractions import Fraction
from random import Random

from fairpatch.cones import Cone
from fairpatch.errors import InvalidLot, InvalidLots, Outside
from fairpatch.hulls import corners, shares_in
from fairpatch.lots import is_lot, mean, mixed, sure
from fairpatch.ratios import Ratio
from tests.samples import any_values, lot_of, mixture, random_lot

WRONG_LOTS = [
    None, 1, "", (), [], {}, [None], [(1, 0)], [(1,) * 10], [[1, 0, 0]], [(1, 0, 0), (1, 0, 0, 0)], [(2, 0, 0)],
    [(0, 0, 0)], [(1, 0, -1)], [(1, 0, False)], [(1, 0, 0)] * 65, (1, 0, 0), [(Ratio(1), 0, 0)],
]


def flat_corners(lots):
    """Corners of lots on 3 outcomes by going round their hull in the plane."""
    points = {}
    for lot in lots:
        points[(Fraction(lot[0], sum(lot)), Fraction(lot[1], sum(lot)))] = lot
    ordered = sorted(points)

    def half(row):
        chain = []
        for point in row:
            while len(chain) > 1:
                (ax, ay), (bx, by) = chain[-2:]
                if (bx - ax) * (point[1] - ay) - (by - ay) * (point[0] - ax) > 0:
                    break
                chain.pop()
            chain.append(point)
        return chain

    return sorted({points[point] for point in half(ordered) + half(ordered[::-1])})


def circle(count, radius, many=3):
    """So many lots around a circle: all of them are corners."""
    found = []
    for at in range(count):
        # the points of a circle with quotients of integers as coordinates
        slope = Fraction(at - count // 2, 7)
        x, y = (1 - slope ** 2) / (1 + slope ** 2), 2 * slope / (1 + slope ** 2)
        whole = (1 + slope ** 2).numerator * (1 + slope ** 2).denominator * 49 * radius
        found.append(lot_of([int((3 + x) * whole), int((3 + y) * whole), 9 * whole - int((6 + x + y) * whole)]
                            + [0] * (many - 3)))
    return found


class HullTests(unittest.TestCase):
    def judge_shares(self, lots, lot, shares):
        self.assertIsInstance(shares, list)
        self.assertEqual(len(shares), len(lots))
        plain = []
        for share in shares:
            self.assertIs(share.__class__, Ratio)
            plain.append(Fraction(share.top, share.bottom))
        self.assertGreaterEqual(min(plain), 0)
        self.assertEqual(sum(plain), 1)
        for at in range(len(lot)):
            told = sum(part * Fraction(one[at], sum(one)) for part, one in zip(plain, lots))
            self.assertEqual(told, Fraction(lot[at], sum(lot)))

    def judge_payoff(self, lots, lot, payoff):
        self.assertIsInstance(payoff, list)
        self.assertEqual(len(payoff), len(lot))
        self.assertTrue(all(number.__class__ is int for number in payoff))
        for one in lots:
            self.assertTrue(mean(one, payoff).below(mean(lot, payoff)))

    def judge(self, lots, lot):
        """Whether the lot is a mixture, judged by what shares_in tells."""
        try:
            shares = shares_in(lots, lot)
        except Outside as error:
            self.judge_payoff(lots, lot, error.payoff)
            return False
        self.judge_shares(lots, lot, shares)
        return True

    def judge_corners(self, lots):
        """Judges corners by shares and payoffs alone; returns them."""
        kept = list(lots)
        begun = time.time()
        told = corners(lots)
        self.assertLess(time.time() - begun, 3)
        self.assertEqual(lots, kept)
        self.assertEqual(told, sorted(set(told)))
        self.assertTrue(set(told) <= set(lots))
        for lot in set(lots) - set(told):
            self.assertTrue(self.judge(told, lot))
        for lot in told:
            others = [other for other in told if other != lot]
            self.assertFalse(others and self.judge(others, lot))
        return told

    def test_small(self):
        self.assertEqual(corners([(1, 1, 0), (0, 1, 0), (1, 0, 0), (0, 1, 0)]), [(0, 1, 0), (1, 0, 0)])
        self.assertEqual(corners(lots=[(1, 2, 3)]), [(1, 2, 3)])
        self.assertEqual(corners([(1, 2, 3)] * 64), [(1, 2, 3)])
        self.assertEqual(corners(((1, 1, 1), (0, 0, 1), (1, 1, 2), (1, 1, 0))), [(0, 0, 1), (1, 1, 0)])
        self.assertEqual(corners([(1, 0, 0), (0, 1, 0), (0, 0, 1), (1, 1, 1), (1, 1, 0), (5, 2, 0)]),
                         [(0, 0, 1), (0, 1, 0), (1, 0, 0)])
        self.assertEqual([str(share) for share in shares_in([(1, 0, 0), (0, 1, 1)], (2, 1, 1))], ["1/2", "1/2"])
        self.assertEqual(shares_in([(1, 0, 0)], (1, 0, 0)), [1])
        with self.assertRaises(Outside) as caught:
            shares_in(lot=(0, 0, 1), lots=[(1, 0, 0), (0, 1, 0)])
        self.judge_payoff([(1, 0, 0), (0, 1, 0)], (0, 0, 1), caught.exception.payoff)

    def test_equal_lots(self):
        for many in (3, 6, 9):
            lot = tuple(range(1, many + 1))
            self.assertTrue(self.judge([lot] * 5, lot))
            self.assertFalse(self.judge([lot] * 5, sure(many, 0)))

    def test_flat_against_going_round(self):
        random = Random(5)
        for most in (1, 2, 4, 9, 50, 10 ** 12, 10 ** 60 - 1):
            for _ in range(12):
                lots = [random_lot(random, 3, most) for _ in range(random.randrange(1, 65))]
                told = corners(lots)
                self.assertEqual(told, flat_corners(lots))
                random.shuffle(lots)
                self.assertEqual(corners(tuple(lots)), told)

    def test_flat_with_all_or_few_corners(self):
        for radius in (1, 10 ** 9, 10 ** 40):
            lots = circle(64, radius)
            self.assertEqual(len(set(lots)), 64)
            self.assertEqual(self.judge_corners(lots), sorted(lots))
        ends = [(1, 0, 0), (0, 1, 0), (0, 0, 1)]
        random = Random(6)
        lots = ends + [mixture(ends, [random.randrange(1, 10 ** 20) for _ in ends]) for _ in range(61)]
        random.shuffle(lots)
        self.assertEqual(self.judge_corners(lots), sorted(ends))
        line = [lot_of([at, 63 - at, 63]) for at in range(64)]
        self.assertEqual(self.judge_corners(line), sorted([line[0], line[-1]]))

    def test_close_to_an_edge(self):
        random = Random(7)
        for many in (3, 5, 9):
            for tiny in (10 ** 9, 10 ** 30):
                ends = [sure(many, at) for at in range(many - 1)]
                ends.append(lot_of([1] * many))
                on = mixture(ends[:-1], [random.randrange(1, 50) for _ in ends[:-1]])
                whole = sum(on)
                inside = lot_of([part * tiny for part in on[:-1]] + [whole])
                self.assertTrue(self.judge(ends, on))
                self.assertTrue(self.judge(ends, inside))
                self.assertFalse(self.judge(ends[:-1], inside))
                self.assertTrue(self.judge(ends[:-1] + [sure(many, many - 1)], inside))
                self.assertEqual(inside in corners(ends[:-1] + [inside]), True)
                self.assertEqual(inside in corners(ends + [inside]), False)

    def test_close_to_a_slanting_edge(self):
        for tiny in (10 ** 9, 10 ** 30):
            left, right = (3, 4, 5), (7, 1, 2)
            # one share more or less in so many takes the point off the line between both
            middle = mixture([left, right], [2, 3])
            for step in (-1, 0, 1):
                lot = lot_of([middle[0] * tiny, middle[1] * tiny + step, middle[2] * tiny - step])
                self.assertEqual(self.judge([left, right], lot), step == 0)
                for third in ((0, 1, 0), (0, 0, 1)):
                    with_third = self.judge([left, right, third], lot)
                    self.assertEqual(with_third, step == 0 or (step > 0) == (third == (0, 1, 0)))

    def test_nine_outcomes(self):
        random = Random(8)
        for most in (1, 3, 1000, 10 ** 20, 10 ** 60 - 1):
            lots = [random_lot(random, 9, most) for _ in range(64)]
            told = self.judge_corners(lots)
            random.shuffle(lots)
            self.assertEqual(corners(lots), told)

    def test_mixtures_among_the_lots(self):
        random = Random(9)
        for many, count, most in [(3, 5, 9), (4, 8, 10 ** 9), (9, 12, 10 ** 12), (9, 20, 10 ** 30), (9, 4, 10 ** 30)]:
            base = [random_lot(random, many, most) for _ in range(count)]
            lots = list(base)
            while len(lots) < 64:
                some = random.sample(base, random.randrange(1, 4))
                lots.append(mixture(some, [random.randrange(1, 1000) for _ in some]))
            random.shuffle(lots)
            self.assertEqual(self.judge_corners(lots), corners(base))
            self.assertTrue(self.judge(lots, mixture(lots[:9], range(1, 10))))

    def test_lots_close_together(self):
        random = Random(10)
        base = [random.randrange(10 ** 59, 10 ** 60) for _ in range(9)]
        for spread in (10 ** 30, 10 ** 50):
            lots = [lot_of([part + random.randrange(spread) for part in base]) for _ in range(64)]
            self.judge_corners(lots)

    def test_uneven_sizes(self):
        random = Random(11)
        lots = [random_lot(random, 9, 10 ** random.choice((1, 5, 20, 60)) - 1) for _ in range(64)]
        self.judge_corners(lots)
        powers = [lot_of([(at + 1) ** exponent for exponent in range(9)]) for at in range(64)]
        self.assertEqual(self.judge_corners(powers), sorted(powers))

    def test_patience_changes_no_verdict(self):
        random = Random(12)
        for _ in range(60):
            many = random.randrange(3, 10)
            lots = [random_lot(random, many, random.choice((1, 2, 5))) for _ in range(random.randrange(1, 20))]
            lot = random_lot(random, many, 3)
            verdicts = []
            for patience in (0, 1, 3, 40):
                cone = Cone(many, patience)
                for one in lots:
                    cone.include(one)
                payoff = cone.payoff_against(lot)
                verdicts.append(payoff is None)
                if payoff is not None:
                    self.judge_payoff(lots, lot, payoff)
            self.assertEqual(len(set(verdicts)), 1)
            self.assertEqual(self.judge(lots, lot), verdicts[0])

    def test_orders_and_new_answers(self):
        random = Random(13)
        lots = [random_lot(random, 5, 6) for _ in range(12)]
        lot = mixture(lots, range(12))
        kept = list(lots)
        for _ in range(5):
            random.shuffle(lots)
            self.assertTrue(self.judge(lots, lot))
        self.assertEqual(sorted(lots), sorted(kept))
        first = shares_in(lots, lot)
        self.assertEqual(shares_in(tuple(lots), lot), first)
        first[0] = None
        self.assertNotEqual(shares_in(lots, lot)[0], None)
        told = corners(lots)
        told.clear()
        self.assertNotEqual(corners(lots), told)
        payoffs = []
        for _ in range(2):
            with self.assertRaises(Outside) as caught:
                shares_in([(1, 0, 0)], (0, 1, 0))
            payoffs.append(caught.exception.payoff)
        self.assertEqual(payoffs[0], payoffs[1])
        self.assertIsNot(payoffs[0], payoffs[1])

    def test_wrong_arguments(self):
        for lots in WRONG_LOTS:
            for call in (lambda: corners(lots), lambda: shares_in(lots, (1, 0, 0)), lambda: shares_in(lots, None)):
                with self.assertRaises(InvalidLots) as caught:
                    call()
                self.assertIs(caught.exception.given, lots)
        for wrong in any_values():
            for lots in ([wrong, (1, 0, 0)], (wrong, (1, 0, 0), (1, 0, 0)), [(1, 0, 0), wrong], [wrong], [wrong, wrong]):
                for call in (lambda: corners(lots), lambda: shares_in(lots, (1, 0, 0)), lambda: mixed(lots, [1] * len(lots))):
                    with self.assertRaises(InvalidLots) as caught:
                        call()
                    self.assertIs(caught.exception.given, lots)
        for lot in [None, 1, "abc", (), [1, 0, 0], (1, 0), (1, 0, 0, 0), (2, 0, 0), (0, 0, 0), (1, 0, True), (1, 0, -1)]:
            with self.assertRaises(InvalidLot) as caught:
                shares_in([(1, 0, 0), (0, 1, 0)], lot)
            self.assertIs(caught.exception.given, lot)

    def test_answers_are_lots(self):
        self.assertTrue(all(is_lot(3, lot) for lot in corners(circle(20, 5))))


if __name__ == "__main__":
    unittest.main()
