import unittest
from random import Random

from fairpatch.errors import (
    InvalidPick, InvalidStore, InvalidSummaries, InvalidSystem, InvalidUnit, NotFair, TooGreat, TooMany,
)
from fairpatch.picks import lot_by, picks
from fairpatch.ratios import Ratio
from fairpatch.texts import read_system
from tests.judges import all_new
from tests.samples import any_values
from tests.test_webs import random_webs, straight
from tests.walks import Walk

TWO, THREE = "choose x { } or y { } ", "choose x { } or y { } or z { } "


def choosing(twos, threes):
    return read_system("name a 2 unit g { " + TWO * twos + THREE * threes + "}")


class PickTests(unittest.TestCase):
    def refused(self, error, given, call, *arguments, **named):
        with self.assertRaises(error) as caught:
            call(*arguments, **named)
        self.assertIs(caught.exception.given, given)

    def too_many(self, count, call, *arguments):
        with self.assertRaises(TooMany) as caught:
            call(*arguments)
        self.assertEqual(caught.exception.count, count)

    def test_against_walks(self):
        most, staying = 0, 0
        for random, system, unit, summaries, walk in random_webs(41, 300):
            store = random.randrange(walk.never)
            place = walk.first(store)
            if len(walk.met(place)) > 64:
                continue
            if walk.count(place) > 64:
                self.too_many(walk.count(place), picks, system, unit, store, summaries)
                counts = [len(walk.moves(row)) for row in walk.choices(place)]
                expected = [tuple(random.randrange(count) for count in counts) for _ in range(5)]
            else:
                expected = walk.picks(place)
                self.assertEqual(picks(system, unit, store, summaries), expected)
                all_new(self, picks(system, unit, store, summaries), picks(system, unit, store, summaries))
            most = max(most, len(expected))
            for pick in expected[:12]:
                lot = lot_by(system, unit, store, summaries, pick)
                self.assertEqual(lot, walk.lot(place, pick))
                self.assertTrue(lot.__class__ is tuple and all(part.__class__ is int for part in lot))
                staying += lot[-1] > 0
        self.assertGreater(most, 20)
        self.assertGreater(staying, 50)

    def test_numbers_of_picks(self):
        for twos, threes in [(0, 0), (1, 0), (0, 1), (6, 0), (2, 2), (4, 1), (1, 3), (0, 3)]:
            system = choosing(twos, threes)
            count = 2 ** twos * 3 ** threes
            told = picks(system=system, unit="g", store=0, summaries={})
            self.assertEqual(told, sorted(set(told)))
            self.assertEqual(len(told), count)
            self.assertTrue(all(len(pick) == twos + threes for pick in told))
            self.assertTrue(all(index in range(2 + (at >= twos)) for pick in told for at, index in enumerate(pick)))
        for twos, threes in [(7, 0), (3, 2), (0, 4), (5, 1), (20, 0), (0, 18), (0, 20)]:
            system = choosing(twos, threes)
            self.too_many(2 ** twos * 3 ** threes, picks, system, "g", 1, {})
            self.assertEqual(lot_by(system, "g", 1, {}, (1,) * (twos + threes)), (0, 1, 0))
            self.refused(InvalidPick, (2,) * 20 + (0,), lot_by, system, "g", 1, {}, (2,) * 20 + (0,))

    def test_six_lots_and_ten_rows_of_choice(self):
        system = read_system("name a 2 unit u { } unit g { call u call u }")
        six = [(at, 7 - at, 1) for at in range(6)]
        self.assertEqual(len(picks(system, "g", 0, {"u": [six[:1], six]})), 6)
        self.assertEqual(len(picks(system, "g", 0, {"u": [six, six[:1]]})), 36)
        self.too_many(6 * 36, picks, system, "g", 0, {"u": [six, six]})
        self.assertEqual(picks(system, "g", 0, {"u": [six[:2], six[:1]]}), [(0, 0), (0, 1), (1, 0), (1, 1)])

    def test_choice_rows_not_come_to(self):
        system = read_system("name a 3 unit g { choose x { } or y { set a = 1 } or z { set a = 2 } if a = 1 { choose p { } or q { set a = 0 } } else { } }")
        told = picks(system, "g", 0, {})
        self.assertEqual(told, [(first, second) for first in range(3) for second in range(2)])
        self.assertEqual([lot_by(system, "g", 0, {}, pick) for pick in told],
                         [(1, 0, 0, 0), (1, 0, 0, 0), (0, 1, 0, 0), (1, 0, 0, 0), (0, 0, 1, 0), (0, 0, 1, 0)])
        self.assertEqual(picks(read_system("name a 2 unit g { if a = 1 { choose x { } or y { } } else { } }"), "g", 0, {}), [()])

    def test_staying(self):
        system = read_system("name a 2 unit g { while a = 0 { choose x { } or y { draw a 0 by 1 1 by 1 } or z { set a = 1 } } }")
        self.assertEqual([lot_by(system, "g", 0, {}, (index,)) for index in range(3)], [(0, 0, 1), (0, 1, 0), (0, 1, 0)])
        self.assertEqual(lot_by(system, "g", 1, {}, ()), (0, 1, 0))
        rings = read_system("name a 4 unit g { draw a 0 by 1 1 by 2 2 by 3 while a < 2 { set a = 1 - a } while a = 3 { } }")
        self.assertEqual(lot_by(rings, "g", 3, {}, ()), (0, 0, 1, 0, 1))
        calls = read_system("name a 2 unit u { } unit g { while a = 0 { call u } }")
        for lots, lot in [([(1, 1, 1)], (0, 1, 1)), ([(1, 0, 0)], (0, 0, 1)), ([(4, 0, 1)], (0, 0, 1)), ([(7, 2, 1)], (0, 2, 1))]:
            self.assertEqual(lot_by(calls, "g", 0, {"u": [lots, [(0, 1, 0)]]}, ()), lot)

    def test_too_great(self):
        system = read_system("name a 2 name b 2 unit u { } unit g { if b = 0 { call u } else { choose x { call u } or y { } } }")
        great = 10 ** 40
        sure = [[(0, 0, 0, 1, 0)]]
        for own, raised in [(great - 1, False), (great, True), (great + 1, True), (10 ** 60 - 1, True), (10 ** 39, False)]:
            for at in range(5):
                lot = tuple(own if at == to else int(to == (at + 1) % 5) for to in range(5))
                for store, pick in [(0, ()), (1, (0,))]:
                    summaries = {"u": [[lot], [lot], *sure * 2]}
                    if raised:
                        with self.assertRaises(TooGreat) as caught:
                            lot_by(system, "g", store, summaries, pick)
                        self.assertEqual(vars(caught.exception), {"unit": "g", "store": store})
                    else:
                        self.assertEqual(lot_by(system, "g", store, summaries, pick), lot)
                    self.assertEqual(lot_by(system, "g", 1, summaries, (1,)), (0, 1, 0, 0, 0))

    def test_wrong_picks(self):
        system = read_system("name a 2 unit g { " + TWO + THREE + "}")
        self.assertEqual(lot_by(pick=(1, 2), summaries={}, store=0, unit="g", system=system), (1, 0, 0))
        for value in [*any_values(), (0,), (0, 0, 0), (2, 0), (0, 3), (-1, 0), (0, -1), [0, 0], (True, 0), (0, False), (Ratio(0), 0),
                      (0, Ratio(1)), ("0", 0), (None, 0), (0, None), ((0,), 0)]:
            if value != (1, 2):
                self.refused(InvalidPick, value, lot_by, system, "g", 0, {}, value)
        forced = read_system("name a 2 unit g { draw a 0 by 1 1 by 1 }")
        for value in [[], (0,), None]:
            self.refused(InvalidPick, value, lot_by, forced, "g", 0, {}, value)

    def test_errors_in_order(self):
        system = read_system(straight(65).replace("unit g", "unit u { } unit g"))
        for call, last in [(picks, ()), (lot_by, (None,))]:
            self.refused(InvalidSystem, None, call, None, None, None, None, *last)
            with self.assertRaises(NotFair):
                call((system[0], system[1] * 2), None, None, None, *last)
            self.refused(InvalidUnit, "x", call, system, "x", None, None, *last)
            for store in [None, True, -1, 8, "0", Ratio(0), (0,)]:
                self.refused(InvalidStore, store, call, system, "g", store, None, *last)
            self.refused(InvalidSummaries, None, call, system, "g", 0, None, *last)
            self.too_many(65, call, system, "g", 0, {}, *last)
        self.refused(InvalidPick, None, lot_by, system, "g", 4, {}, None)
        both = read_system(straight(65).replace("draw a 0", TWO * 7 + "draw a 0", 1))
        with self.assertRaises(TooMany) as caught:
            picks(both, "g", 0, {})
        self.assertEqual(caught.exception.count, 72)

    def test_random_chains_with_great_lots(self):
        random = Random(42)
        system = read_system("name a 3 name b 2 unit u { } unit g { while a = 0 { call u if b = 0 { call u } else { } } call u }")
        for _ in range(10):
            summaries = {"u": [[tuple([random.randrange(10 ** 6) for _ in range(6)] + [1])] for _ in range(6)]}
            walk = Walk(system[0], system[1][1][1], summaries)
            lot = walk.lot(walk.first(0), ())
            if max(lot) < 10 ** 40:
                self.assertEqual(lot_by(system, "g", 0, summaries, ()), lot)
            else:
                with self.assertRaises(TooGreat):
                    lot_by(system, "g", 0, summaries, ())


if __name__ == "__main__":
    unittest.main()
