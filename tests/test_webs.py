import unittest
from fractions import Fraction
from math import gcd
from random import Random

from fairpatch.checks import with_body
from fairpatch.errors import InvalidRow, InvalidStore, InvalidSummaries, InvalidSystem, InvalidUnit, NotFair, TooMany
from fairpatch.picks import picks
from fairpatch.plain import play
from fairpatch.ratios import Ratio
from fairpatch.texts import read_system
from fairpatch.webs import Web, web
from tests.samples import any_values, random_lot
from tests.small import SmallMaker, random_summaries
from tests.test_plain import random_game
from tests.walks import Walk, part_at, paths_of

EIGHT = "name a 2 name b 2 name c 2 "
FILL = "draw a 0 by 1 1 by 1 draw b 0 by 1 1 by 1 draw c 0 by 1 1 by 1 "


def straight(count):
    """A text of a unit with just so many rows met from stores with a = 0, and none from the others."""
    eights, rest = divmod(count - 7, 8)
    loops = min(eights, 2)
    body = "choose x { } or y { } " * rest + FILL + "while yes { " * loops + "draw a 0 by 1 1 by 2 " * (eights - loops)
    return EIGHT + "unit g { if a = 0 { " + body + "} " * loops + "} else { } }"


def key(place):
    return (isinstance(place, tuple), place)


def random_webs(seed, count, most=5):
    """Webs of random units over random summaries, with the walks that tell the same."""
    random = Random(seed)
    for _ in range(count):
        system = SmallMaker(random, most).system()
        unit, body = random.choice(system[1])
        summaries = random_summaries(random, system, unit)
        yield random, system, unit, summaries, Walk(system[0], body, summaries)


class WebTests(unittest.TestCase):
    def refused(self, error, given, call, *arguments, **named):
        with self.assertRaises(error) as caught:
            call(*arguments, **named)
        self.assertIs(caught.exception.given, given)

    def judge_moves(self, moves, expected):
        self.assertIs(moves.__class__, list)
        self.assertEqual(len(moves), len(expected))
        for move, chances in zip(moves, expected):
            self.assertIs(move.__class__, list)
            self.assertTrue(all(one.__class__ is tuple and one[1].__class__ is int and one[1] > 0 for one in move))
            places = [place for place, _ in move]
            self.assertEqual(places, sorted(set(places), key=key))
            whole = sum(weight for _, weight in move)
            self.assertEqual(gcd(*[weight for _, weight in move]), 1)
            self.assertEqual({place: Fraction(weight, whole) for place, weight in move}, chances)

    def test_against_walks(self):
        kinds = set()
        for _, system, unit, summaries, walk in random_webs(31, 250):
            told = web(system, unit, summaries)
            self.assertIs(told.__class__, Web)
            self.assertEqual(told.never, walk.never)
            rows = walk.all_rows()
            for row in rows:
                self.assertIs(told.is_row(row), True)
                self.judge_moves(told.moves(row), walk.moves(row))
                kind = part_at(walk.body, row[0])[0]
                kinds.add(kind)
                for outcome in range(walk.never + 1):
                    if kind == "call":
                        self.assertEqual(told.behind(row, outcome), walk.behind(row[0], outcome))
                    else:
                        self.refused(InvalidRow, row, told.behind, row, outcome)
            for path in paths_of(walk.body):
                for store in range(walk.never):
                    if (path, store) not in rows:
                        self.assertIs(told.is_row((path, store)), False)
            self.assertEqual([told.first(store) for store in range(walk.never)], [walk.first(store) for store in range(walk.never)])
        self.assertEqual(kinds, {"draw", "choose", "while", "call"})

    def test_each_question_first(self):
        """Whatever is asked first of a new web, the answer is the same."""
        for random, system, unit, summaries, walk in random_webs(32, 60):
            store, rows = random.randrange(walk.never), walk.all_rows()
            first, met = walk.first(store), walk.met(walk.first(store))
            self.assertEqual(web(system, unit, summaries).first(store), first)
            self.assertEqual(web(system, unit, summaries).rows_from(store), met)
            self.assertEqual(web(system, unit, summaries).met_from(first), met)
            for row in random.sample(rows, min(3, len(rows))):
                self.judge_moves(web(system, unit, summaries).moves(row), walk.moves(row))
                self.assertEqual(web(system, unit, summaries).met_from(row), walk.met(row))
                self.assertIs(web(system, unit, summaries).is_row(row), True)
                if part_at(walk.body, row[0])[0] == "call":
                    self.assertEqual(web(system, unit, summaries).behind(row, store), walk.behind(row[0], store))

    def test_exact_moves(self):
        system = read_system("name a 3 name b 2 unit g { draw a 0 by 2 2 by 4 if a = 0 { set b = 0 } else { set a = 0 set b = 0 } "
                             "choose x { } or y { set a = 1 } or z { } while a < 2 { } while b = 0 { while a = 0 { } set a = 0 } }")
        told = web(system, "g", {})
        place = ((2,), 0)
        self.assertEqual(told.moves(((0,), 5)), [[(place, 1)]])
        self.assertEqual(told.first(3), ((0,), 3))
        self.assertEqual(told.moves(((2,), 0)), [[(((3,), 0), 1)], [(((3,), 2), 1)], [(((3,), 0), 1)]])
        self.assertEqual(told.moves(((2,), 5)), [[(5, 1)], [(((3,), 3), 1)], [(5, 1)]])
        self.assertEqual(told.moves(((3,), 2)), [[(((3,), 2), 1)]])
        self.assertEqual(told.moves(((4,), 2)), [[(((4,), 0), 1)]])
        self.assertEqual(told.moves(((4,), 0)), [[(((4, 0, 0), 0), 1)]])
        self.assertEqual(told.moves(((4, 0, 0), 0)), [[(((4, 0, 0), 0), 1)]])
        self.assertEqual([told.is_row(((3,), store)) for store in range(6)], [True] * 4 + [False] * 2)
        draws = web(read_system("name a 4 unit g { draw a 0 by 3 1 by 12 3 by 9 }"), "g", {})
        self.assertEqual(draws.moves(((0,), 2)), [[(0, 1), (1, 4), (3, 3)]])

    def test_exact_moves_of_calls(self):
        system = read_system("name a 3 unit u { } unit g { call u if a < 2 { set a = 0 } else { } call u }")
        lots = [[(1, 1, 1, 1), (1, 1, 2, 0)], [(0, 0, 0, 1), (0, 2, 4, 3)], [(2, 4, 0, 6), (4, 2, 0, 6)]]
        with self.assertRaises(InvalidSummaries):
            web(system, "g", {"u": lots})
        lots[2] = [(1, 2, 0, 3), (2, 1, 0, 3)]
        told = web(system, "g", {"u": lots})
        zero, two = ((2,), 0), ((2,), 2)
        self.assertEqual(told.moves(((0,), 0)), [[(3, 1), (zero, 2), (two, 1)], [(zero, 1), (two, 1)]])
        self.assertEqual(told.moves(((0,), 1)), [[(3, 1)], [(3, 3), (zero, 2), (two, 4)]])
        self.assertEqual(told.moves(((0,), 2)), [[(3, 1), (zero, 1)], [(3, 1), (zero, 1)]])
        self.assertEqual([told.behind(((0,), 1), outcome) for outcome in range(4)], [zero, zero, two, 3])
        self.assertEqual(told.behind(outcome=1, row=((2,), 1)), 1)
        for wrong in (-1, 4, True, None):
            self.refused(InvalidStore, wrong, told.behind, ((2,), 1), wrong)
        self.assertEqual(told.moves(((2,), 2)), [[(0, 1), (1, 2), (3, 3)], [(0, 2), (1, 1), (3, 3)]])

    def test_greatest_lots(self):
        system = read_system("name a 2 unit u { } unit g { call u }")
        great = 10 ** 60 - 1
        told = web(system, "g", {"u": [[(1, great, 0)], [(great, 1, great - 1)]]})
        self.assertEqual(told.moves(((0,), 0)), [[(0, 1), (1, great)]])
        self.assertEqual(told.moves(((0,), 1)), [[(0, great), (1, 1), (2, great - 1)]])
        six = [(at, 7 - at, 1) for at in range(6)]
        self.assertEqual(len(web(system, "g", {"u": [six, six]}).moves(((0,), 1))), 6)
        with self.assertRaises(InvalidSummaries):
            web(system, "g", {"u": [six, sorted([*six, (9, 0, 1)])]})

    def test_any_value_as_row(self):
        system = read_system("name a 3 unit u { } unit g { while a = 1 { call u } set a = 0 if yes { draw a 0 by 1 1 by 1 } else { } }")
        told = web(system, "g", {"u": [[(1, 0, 0, 0)]] * 3})
        wrong = [*any_values(), 0, 3, ((0,), True), ((False,), 1), ([0], 1), [(0,), 1], ((0,), 1, 1), ((0,),), ((0,), 0), ((0,), 2),
                 ((1,), 1), ((2,), 1), ((3,), 1), ((-1,), 1), ((), 1), ((0, 0), 1), ((0, 0, 0), 3), ((0, 0, 0), -1), ((0, 1, 0), 1),
                 ((0, 0, 1), 1), ((Ratio(0),), 1), ((0,), Ratio(1)), ((2, 1, 0), 0), ((0, 0, 0), "1"), ("0", 1), (0, 1),
                 ((0, 0, 0, 0, 0), 1), ((2, 0, [0]), 1), ((2, {}, 0), 1)]
        for value in wrong:
            self.assertIs(told.is_row(value), False, value)
            self.refused(InvalidRow, value, told.moves, value)
            self.refused(InvalidRow, value, told.behind, value, None)
            if not isinstance(value, int) or isinstance(value, bool) or not 0 <= value <= 3:
                self.refused(InvalidRow, value, told.met_from, value)
        for value in [((0,), 1), ((0, 0, 0), 0), ((0, 0, 0), 2), ((2, 0, 0), 0)]:
            self.assertIs(told.is_row(value=value), True)
        row = ((0, 0, 0), 1)
        for outcome in [*[one for one in any_values() if one != 0 and one != 1 or isinstance(one, (bool, Ratio))], -1, 4, 2 ** 70]:
            self.refused(InvalidStore, outcome, told.behind, row, outcome)
        self.refused(InvalidRow, ((2, 0, 0), 1), told.behind, ((2, 0, 0), 1), 0)

    def test_stores(self):
        told = web(read_system("name a 2 unit g { draw a 0 by 1 1 by 1 }"), "g", {})
        for value in [None, True, False, -1, 2, 10 ** 60, "0", (), [0], (0,), Ratio(0), ((0,), 0)]:
            for call in (told.first, told.rows_from, told.stays_from):
                self.refused(InvalidStore, value, call, value)
            self.refused(InvalidStore, value, told.first, store=value)
        self.assertEqual(told.first(store=1), ((0,), 1))
        self.assertEqual([told.met_from(place=outcome) for outcome in range(3)], [[], [], []])

    def test_errors_in_order(self):
        system = read_system("name a 2 unit u { } unit g { call u }")
        for value in [None, (), system[0], (system[0], list(system[1]))]:
            self.refused(InvalidSystem, value, web, value, "none", None)
        with self.assertRaises(NotFair) as caught:
            web((system[0], system[1][::-1]), "none", None)
        self.assertEqual(vars(caught.exception), {"reason": "call", "unit": "g", "word": "u"})
        for value in [*any_values(), "a", "G", "g ", ["g"]]:
            self.refused(InvalidUnit, value, web, system, value, None)
        self.refused(InvalidSummaries, None, web, summaries=None, unit="u", system=system)

    def test_wrong_summaries(self):
        system = read_system("name a 2 unit u { } unit v { } unit w { call u call v } unit g { while a < 1 { call u } }")
        good = [(0, 0, 1), (1, 1, 0)]
        lots = [[], [(1, 1, 0), (0, 0, 1)], [(1, 1, 0)] * 2, [(2, 0, 0)], [(0, 0, 0)], [(1, 0)], [(1, 0, 0, 0)], [[1, 0, 0]], (1, 0, 0),
                [(True, 0, 0)], [(1, 0, -1)], [(Ratio(1), 0, 0)], None, 1, "lot", {}, {(1, 0, 0): 1}, [None, (1, 0, 0)], [(1, 0, 0), None],
                [0, (1, 0, 0)], [(0, at, 1) for at in range(7)]]
        values = [[good], [good] * 3, [], None, {}, {0: good, 1: good}, "ab", 2, (good, None), [None, good]]
        values += [[wrong, good] for wrong in lots] + [[good, wrong] for wrong in lots]
        for unit, needed in [("g", ["u"]), ("w", ["u", "v"])]:
            for at, name in enumerate(needed):
                for value in values:
                    summaries = {called: [good] * 2 for called in needed}
                    summaries[name] = value
                    self.refused(InvalidSummaries, summaries, web, system, unit, summaries)
                missing = {called: [good] * 2 for called in needed if called != name}
                self.refused(InvalidSummaries, missing, web, system, unit, missing)
        for value in [None, [], (), "u", [("u", [good, good])], 0]:
            self.refused(InvalidSummaries, value, web, system, "u", value)
            self.refused(InvalidSummaries, value, web, system, "g", value)

    def test_right_summaries(self):
        system = read_system("name a 2 unit u { } unit v { call u } unit g { call v }")
        lots = [[(0, 0, 1), (1, 1, 0), (1, 3, 0), (2, 1, 3)], [(1, 0, 0)]]
        for summaries in [{"v": lots}, {"v": (tuple(lots[0]), lots[1])}, {"v": [tuple(lots[0]), lots[1]]},
                          {"u": None, "v": lots, "g": 1, "a": [], "": {}}]:
            told = web(system, "g", summaries)
            self.assertEqual(told.moves(((0,), 0)), web(system, "g", {"v": lots}).moves(((0,), 0)))
            self.assertEqual(len(told.moves(((0,), 0))), 4)
        self.assertEqual(web(system, "u", {"u": 3}).first(0), 0)

    def test_changed_behind_the_call(self):
        system = read_system("name a 2 unit u { } unit g { while a = 0 { call u } }")
        lots = [[(0, 0, 1), (1, 1, 0)], [(1, 0, 0)]]
        summaries = {"u": lots}
        told, other = web(system, "g", summaries), web(system, "g", {"u": [[(1, 0, 0)]] * 2})
        self.assertEqual(summaries, {"u": [[(0, 0, 1), (1, 1, 0)], [(1, 0, 0)]]})
        lots[0].append((1, 2, 0))
        lots[1][0] = (0, 0, 1)
        summaries["u"] = None
        row = ((0, 0, 0), 0)
        expected = [[(2, 1)], [(1, 1), (((0,), 0), 1)]]
        for _ in range(2):
            self.assertEqual(other.moves(row), [[(((0,), 0), 1)]])
            moves = told.moves(row)
            self.assertEqual(moves, expected)
            self.assertEqual(len({id(move) for move in moves}), 2)
            moves[0].append(None)
            moves.clear()
            rows = told.rows_from(0)
            self.assertEqual(rows, [((0,), 0), row])
            rows.clear()
            stays = told.stays_from(0)
            self.assertEqual(stays, [])
            stays.append(1)
            met = told.met_from(row)
            met.pop()
        self.assertEqual(other.stays_from(0), [((0,), 0), row])
        other.stays_from(0).clear()
        self.assertEqual(other.stays_from(0), [((0,), 0), row])

    def test_other_bodies_mean_nothing(self):
        for random, system, unit, summaries, walk in random_webs(33, 40):
            other = system
            for name, _ in system[1]:
                if name != unit:
                    other = with_body(other, name, ())
            first, second = web(system, unit, summaries), web(other, unit, summaries)
            for row in walk.all_rows():
                self.assertEqual(first.moves(row), second.moves(row))


class MetTests(unittest.TestCase):
    def test_met_and_staying(self):
        some = 0
        for _, system, unit, summaries, walk in random_webs(34, 250, 6):
            told = web(system, unit, summaries)
            for store in range(walk.never):
                met = walk.met(walk.first(store))
                if len(met) > 64:
                    continue
                self.assertEqual(told.rows_from(store), met)
                stays = told.stays_from(store)
                self.assertEqual(stays, sorted(set(stays)))
                self.assertTrue(set(stays) <= set(met))
                for row in stays:
                    self.assertTrue(any(set(move) <= set(stays) for move in walk.moves(row)))
                some += bool(stays) and len(stays) < len(met)
                # from each other row an outcome comes whatever is chosen: within so many rounds all are found
                left, ending = set(met) - set(stays), set()
                for _ in range(len(left)):
                    ending |= {row for row in left - ending
                               if all(any(not isinstance(place, tuple) or place in ending for place in move)
                                      for move in walk.moves(row))}
                self.assertEqual(left, ending)
            for row in walk.all_rows():
                if len(walk.met(row)) <= 64:
                    self.assertEqual(told.met_from(row), walk.met(row))
        self.assertGreater(some, 20)

    def test_staying(self):
        for text, store, expected in [
            ("name a 2 unit g { while yes { } }", 1, [((0,), 1)]),
            ("name a 2 unit g { choose x { while yes { } } or y { } }", 0, [((0,), 0), ((0, 0, 0), 0)]),
            ("name a 2 unit g { while a = 0 { choose x { } or y { draw a 0 by 1 1 by 1 } } }", 0, [((0,), 0), ((0, 0, 0), 0)]),
            ("name a 2 unit g { while a = 0 { draw a 0 by 1 1 by 1 } }", 0, []),
            ("name a 2 unit g { draw a 0 by 1 1 by 1 while a = 0 { } }", 0, [((1,), 0)]),
            ("name a 2 unit g { while yes { draw a 0 by 1 1 by 1 } }", 0, [((0,), 0), ((0,), 1), ((0, 0, 0), 0), ((0, 0, 0), 1)]),
            ("name a 2 unit g { while yes { choose x { set a = 1 - a } or y { while a = 0 { } } } }", 0,
             [((0,), 0), ((0,), 1), ((0, 0, 0), 0), ((0, 0, 0), 1), ((0, 0, 0, 1, 0), 0)]),
        ]:
            self.assertEqual(web(read_system(text), "g", {}).stays_from(store), expected)
        system = read_system("name a 2 unit u { } unit g { while yes { call u } }")
        self.assertEqual(web(system, "g", {"u": [[(0, 0, 1)], [(0, 0, 1)]]}).stays_from(0), [])
        self.assertEqual(web(system, "g", {"u": [[(0, 0, 1), (1, 0, 0)], [(0, 0, 1)]]}).stays_from(0), [((0,), 0), ((0, 0, 0), 0)])
        self.assertEqual(web(system, "g", {"u": [[(1, 0, 1)], [(0, 1, 0)]]}).stays_from(0), [])
        self.assertEqual(web(system, "g", {"u": [[(1, 0, 1)], [(0, 1, 0)]]}).stays_from(1), [((0,), 1), ((0, 0, 0), 1)])

    def test_too_many(self):
        for count in (63, 64, 65, 66, 71, 79):
            system = read_system(straight(count))
            for store in (0, 3):
                asked = [lambda: web(system, "g", {}).rows_from(store), lambda: web(system, "g", {}).stays_from(store),
                         lambda: web(system, "g", {}).met_from(web(system, "g", {}).first(store)),
                         lambda: picks(system, "g", store, {})]
                for call in asked:
                    self.assertEqual(len(Walk(system[0], system[1][0][1]).met(web(system, "g", {}).first(store))), count)
                    if count > 64:
                        with self.assertRaises(TooMany) as caught:
                            call()
                        self.assertEqual(caught.exception.count, count)
                    elif call is not asked[-1]:
                        call()
            told = web(system, "g", {})
            self.assertEqual([told.rows_from(4), told.stays_from(7), told.met_from(8)], [[], [], []])

    def test_more_lots(self):
        for random, system, unit, summaries, walk in random_webs(35, 80):
            more = {name: [sorted({*lots, random_lot(random, walk.never + 1, 3)}) for lots in told] for name, told in summaries.items()}
            few, rich = web(system, unit, summaries), web(system, unit, more)
            for row in walk.all_rows():
                self.assertTrue(rich.is_row(row))
                kept = few.moves(row)
                self.assertTrue(all(move in rich.moves(row) for move in kept))
                if part_at(walk.body, row[0])[0] != "call":
                    self.assertEqual(kept, rich.moves(row))
            for store in range(walk.never):
                self.assertEqual(few.first(store), rich.first(store))
                if len(Walk(system[0], walk.body, more).met(walk.first(store))) <= 64:
                    self.assertTrue(set(few.rows_from(store)) <= set(rich.rows_from(store)))
                    self.assertTrue(set(few.stays_from(store)) <= set(rich.stays_from(store)))


class PlayedTests(unittest.TestCase):
    """[78]: the lines of games, against the rows and moves of webs."""

    def follow(self, system, unit, store, lines, at):
        """Follows the lines of a call from the number at; returns the number behind them and its end, None if they end ahead."""
        body = dict(system[1])[unit]
        walk = Walk(system[0], body)
        sure = [[tuple(int(at == store) for at in range(walk.never + 1))] for store in range(walk.never)]
        told = web(system, unit, {name: sure for name, _ in system[1]})
        place = told.first(store)
        while at < len(lines):
            words = lines[at].split()
            at += 1
            if words[0] == "back":
                self.assertEqual(words[1], unit)
                self.assertNotIsInstance(place, tuple)
                return at, place
            statement = part_at(body, place[0])
            if words[0] == "choose":
                index = [label for label, _ in statement[1]].index(words[1])
                (place, _), = told.moves(place)[index]
            elif words[0] == "loop":
                ((place, _),), = told.moves(place)
            elif words[0] == "turn":
                self.assertEqual(int(words[3]), sum(weight for _, weight in statement[2]))
                parts = {}
                for part in range(int(words[3])):
                    values = [value for value, weight in statement[2] for _ in range(weight)]
                    further = walk.place(walk.after(place[0]), walk.given(place[1], statement[1], values[part]))
                    parts[further] = parts.get(further, 0) + Fraction(1, int(words[3]))
                    if part == int(words[1]):
                        come = further
                move, = told.moves(place)
                whole = sum(weight for _, weight in move)
                self.assertEqual({further: Fraction(weight, whole) for further, weight in move}, parts)
                place = come
            else:
                self.assertEqual(words, ["call", statement[1]])
                at, end = self.follow(system, words[1], place[1], lines, at)
                if end is None:
                    return at, None
                place = told.behind(place, end)
        return at, None

    def test_plays(self):
        random = Random(36)
        ended = 0
        for _ in range(150):
            system = SmallMaker(random, 7).system()
            store = random.randrange(len(Walk(system[0], ()).space))
            answers, _, _ = random_game(random, system, store, 80)
            lines, end = play(system, store, answers, 80)
            at, told = self.follow(system, system[1][-1][0], store, lines, 0)
            self.assertEqual((at, told), (len(lines), end))
            ended += end is not None
        self.assertGreater(ended, 30)


if __name__ == "__main__":
    unittest.main()
