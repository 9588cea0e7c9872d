import time
import unittest
from copy import deepcopy
from fractions import Fraction
from random import Random

from fairpatch.checks import calls_of
from fairpatch.errors import (
    InvalidLot, InvalidPayoff, InvalidStore, InvalidSummaries, InvalidSystem, InvalidUnit, NotBrought, NotFair, Outside,
    TooGreat, TooMany, TooRich,
)
from fairpatch.forward import best, brought, corners_of, is_against, is_brought, summary, table
from fairpatch.hulls import corners, shares_in
from fairpatch.picks import lot_by
from fairpatch.ratios import Ratio
from fairpatch.texts import read_system
from tests import judges
from tests.judges import all_new, fraction
from tests.samples import any_values, lot_of, mixture, random_lot
from tests.small import SmallMaker, random_summaries, spoiled
from tests.test_picks import THREE, TWO
from tests.test_webs import random_webs, straight
from tests.walks import Walk, mean_of

MIX = "if a = b { draw a 0 by 11 1 by 12 } else { draw b 0 by 7 1 by 12 } "
GREAT = "name a 2 name b 2 unit ua { " + MIX * 6 + "} unit ub { call ua " + MIX * 6 + "} unit uc { if b = 0 { } else { call ub " + MIX * 6 + "} } "
WRONG = [None, True, False, 0, 1, -1, "a", (), [], {}, Ratio(1, 2), Ratio(0)]


def small_webs(seed, count, most_picks=40, most=5):
    """Random webs from a store from which not too many rows and picks are met."""
    for random, system, unit, summaries, walk in random_webs(seed, count, most):
        store = random.randrange(walk.never)
        place = walk.first(store)
        if walk.has_few(place, 64, most_picks):
            yield random, system, unit, store, summaries, walk, place


def inside(lots, lot):
    try:
        shares_in(lots, lot)
    except Outside:
        return False
    return True


def payoffs(random, never):
    """Payoffs of all kinds: with never's number the greatest, the least, or between."""
    for _ in range(4):
        yield [random.randrange(-5, 6) for _ in range(never + 1)]
    yield [random.randrange(10) for _ in range(never)] + [20]
    yield [random.randrange(10) for _ in range(never)] + [-20]
    yield [random.randrange(-10 ** 59, 10 ** 59) for _ in range(never + 1)]
    yield [0] * (never + 1)


def leaf(store):
    """Statements that lead from store 1 of three names with two values to another store."""
    return "set a = 1 " * (store // 4) + "set b = 1 " * (store // 2 % 2) + "set c = 0 " * (1 - store % 2)


def tree(leaves):
    """A text of choices of one of so many stores, up to 9 with three labels each time."""
    branches = []
    for label, stores in zip("xyz" if leaves > 6 else "xy", (range(0, 3), range(3, 6), range(6, leaves))):
        inner = [f"{'pqr'[at]} {{ {leaf(store)}}} " for at, store in enumerate(stores)]
        branches.append(f"{label} {{ " + (leaf(stores[0]) if len(inner) == 1 else "choose " + "or ".join(inner)) + "} ")
    return "choose " + "or ".join(branches)


def plain_summary(system, unit):
    """Summaries by walks, where there are few rows and picks; None if there are too many."""
    told = {}
    for name in [*calls_of(system, unit), unit]:
        for below in calls_of(system, name):
            if below not in told:
                told[below] = plain_summary(system, below)
        if any(part is None for part in told.values()):
            return None
        walk = Walk(system[0], dict(system[1])[name], told)
        lots = []
        for store in range(walk.never):
            place = walk.first(store)
            if not walk.has_few(place, 64, 64):
                return None
            lots.append(corners(walk.lots(place)))
            if len(lots[-1]) > 6:
                return None
        told[name] = lots
    return told[unit]


class ForwardTests(unittest.TestCase):
    def refused(self, error, given, call, *arguments, **named):
        with self.assertRaises(error) as caught:
            call(*arguments, **named)
        self.assertIs(caught.exception.given, given)

    def raised(self, error, attributes, call, *arguments):
        with self.assertRaises(error) as caught:
            call(*arguments)
        self.assertEqual(vars(caught.exception), attributes)


class CornerTests(ForwardTests):
    def test_corners_of(self):
        rich = 0
        for _, system, unit, store, summaries, walk, place in small_webs(51, 250):
            told = corners_of(system, unit, store, summaries)
            lots = walk.lots(place)
            self.assertEqual(told, sorted(set(told)))
            self.assertTrue(set(told) <= set(lots))
            for lot in lots:
                self.assertTrue(inside(told, lot))
            for lot in told:
                others = [other for other in told if other != lot]
                self.assertFalse(others and inside(others, lot))
            rich = max(rich, len(told))
            all_new(self, told, corners_of(summaries=summaries, store=store, unit=unit, system=system))
        self.assertGreater(rich, 4)

    def test_too_many_then_too_great(self):
        system = read_system("name a 2 unit u { } unit g { " + TWO * 6 + "if a = 1 { choose x { } or y { } } else { } call u }")
        great = 10 ** 40
        summaries = {"u": [[(great, 1, 0)], [(0, 0, 1)]]}
        self.raised(TooGreat, {"unit": "g", "store": 0}, corners_of, system, "g", 0, summaries)
        self.raised(TooMany, {"count": 128}, corners_of, system, "g", 1, {"u": summaries["u"][::-1]})
        self.raised(TooMany, {"count": 128}, brought, system, "g", 1, {"u": summaries["u"][::-1]}, (1, 0, 0))
        self.raised(TooGreat, {"unit": "g", "store": 0}, brought, system, "g", 0, summaries, (1, 0, 0))
        self.assertEqual(corners_of(system, "g", 0, {"u": [[(great - 1, 1, 0)], [(0, 0, 1)]]}), [(great - 1, 1, 0)])
        # one pick that brings integers too great is enough, also if its lot is no corner
        mixed = read_system("name a 2 unit u { } unit v { } unit g { choose x { call u } or y { call v } or z { set a = 1 } }")
        told = {"u": [[(great, great + 1, 0)]] * 2, "v": [[(1, 0, 0)]] * 2}
        self.raised(TooGreat, {"unit": "g", "store": 1}, corners_of, mixed, "g", 1, told)
        self.assertEqual(lot_by(mixed, "g", 1, told, (1,)), (1, 0, 0))

    def test_summary(self):
        random = Random(52)
        several, many = 0, 0
        for _ in range(120):
            system = SmallMaker(random, 4).system()
            for unit, _ in system[1]:
                expected = plain_summary(system, unit)
                if expected is not None:
                    told = summary(system, unit)
                    self.assertEqual(told, expected)
                    all_new(self, told, summary(unit=unit, system=system))
                    several += len(calls_of(system, unit)) > 0
                    many = max(many, *map(len, told))
        self.assertGreater(several, 20)
        self.assertGreater(many, 2)

    def test_summary_raises(self):
        names = "name a 2 name b 2 name c 2 "
        pieces = {
            "few": "unit few { draw a 0 by 1 1 by 1 } ",
            "picky": "unit picky { " + TWO * 7 + "} ",
            "later": "unit later { if [a = 1] and [b = 1] { " + THREE * 4 + "} else { } } ",
            "rowy": "unit rowy { if a = 0 { " + straight(67).split("if a = 0 {")[1] + " ",
            "rich": "unit rich { if [c = 1] and [a + b = 0] { " + tree(7) + "} else { } } ",
        }
        picky, later = {"count": 128}, {"count": 81}
        rowy, rich = {"count": 67}, {"unit": "rich", "store": 1, "count": 7}
        errors = {"picky": (TooMany, picky), "later": (TooMany, later), "rowy": (TooMany, rowy), "rich": (TooRich, rich)}
        for first, error in errors.items():
            text = names + pieces["few"] + pieces[first]
            self.raised(*error, summary, read_system(text), first)
            for caller in (f"unit g {{ call few call {first} }}", f"unit v {{ if a = 1 {{ call {first} }} else {{ }} }} unit g {{ call v }}"):
                self.raised(*error, summary, read_system(text + caller), "g")
            idle = read_system(text + "unit g { call few }")
            self.assertEqual(summary(idle, "g"), summary(idle, "few"))
            for second, other in errors.items():
                if second != first:
                    both = read_system(names + pieces[second] + pieces[first] + f"unit g {{ call {first} call {second} }}")
                    self.raised(*other, summary, both, "g")
                    self.raised(*error, summary, both, first)

    def test_corners_with_more_than_six(self):
        for leaves in (6, 7, 8):
            system = read_system("name a 2 name b 2 name c 2 unit rich { if [c = 1] and [a + b = 0] { " + tree(leaves) +
                                 "} else { } } unit g { call rich }")
            self.assertEqual([len(corners_of(system, "rich", store, {})) for store in range(8)], [1, leaves] + [1] * 6)
            for unit in ("rich", "g"):
                if leaves == 6:
                    self.assertEqual([len(lots) for lots in summary(system, unit)], [1, leaves] + [1] * 6)
                    continue
                self.raised(TooRich, {"unit": "rich", "store": 1, "count": leaves}, summary, system, unit)

    def test_too_great_in_summaries(self):
        system = read_system(GREAT + "unit ud { call uc } unit ue { call ud } unit uf { call ub }")
        for unit in ("ua", "ub", "uf"):
            self.assertEqual(summary(system, unit), plain_summary(system, unit))
        for unit in ("uc", "ud", "ue"):
            self.raised(TooGreat, {"unit": "uc", "store": 1}, summary, system, unit)

    def test_what_follows(self):
        """[88]: more lots told, more lots brought; statements of a called unit in the place of a call."""
        random = Random(53)
        inlined = 0
        for _ in range(120):
            system = SmallMaker(random, 4).system(2)
            (called, body), (unit, caller) = system[1]
            told = plain_summary(system, called)
            if told is None or called not in calls_of(system, unit):
                continue
            fewer = {called: [corners([mixture(lots, [random.randrange(1, 5) for _ in lots]) for _ in range(2)]) for lots in told]}
            flat = (system[0], (system[1][0], (unit, replaced(caller, called, body))))
            for store in range(len(told)):
                whole, part = Walk(system[0], caller, {called: told}), Walk(system[0], caller, fewer)
                if not all(walk.has_few(walk.first(store), 64, 64) for walk in (whole, part)):
                    continue
                rich = corners_of(system, unit, store, {called: told})
                for lot in corners_of(system, unit, store, fewer):
                    self.assertTrue(inside(rich, lot))
                try:
                    self.assertEqual(corners_of(flat, unit, store, {}), rich)
                    inlined += 1
                except (TooMany, InvalidSystem):
                    pass
        self.assertGreater(inlined, 25)


def replaced(body, called, inner):
    """A body with the statements of a called unit in the place of its calls."""
    found = []
    for statement in body:
        kind = statement[0]
        if statement == ("call", called):
            found.extend(inner)
        elif kind == "choose":
            found.append(("choose", tuple((label, replaced(part, called, inner)) for label, part in statement[1])))
        elif kind in ("if", "while"):
            found.append((*statement[:2], *[replaced(part, called, inner) for part in statement[2:]]))
        else:
            found.append(statement)
    return tuple(found)


class BroughtTests(ForwardTests):
    def judge(self, system, unit, store, summaries, walk, place, lot):
        """Judges what brought tells of a lot; returns whether it is brought."""
        try:
            blend = brought(system, unit, store, summaries, lot)
        except NotBrought as error:
            paper = (error.payoff, error.table)
            self.assertTrue(judges.is_against(walk, place, lot, paper))
            self.assertIs(error.payoff.__class__, list)
            self.assertIs(error.table.__class__, list)
            self.assertTrue(all(number.__class__ is Ratio for _, number in error.table))
            self.assertIs(is_against(system, unit, store, summaries, lot, paper), True)
            with self.assertRaises(NotBrought) as again:
                brought(system, unit, store, summaries, lot)
            all_new(self, list(paper), [again.exception.payoff, again.exception.table])
            return False
        self.assertTrue(judges.is_blend(walk, place, lot, blend))
        self.assertLessEqual(len(blend), walk.never + 1)
        self.assertIs(blend.__class__, list)
        self.assertEqual(lot_of([weight for weight, _ in blend]), tuple(weight for weight, _ in blend))
        self.assertIs(is_brought(system, unit, store, summaries, lot, blend), True)
        all_new(self, blend, brought(lot=lot, summaries=summaries, store=store, unit=unit, system=system))
        return True

    def test_brought(self):
        yes, no = 0, 0
        for random, *told in small_webs(54, 220):
            walk, place = told[-2:]
            lots = walk.lots(place)
            some = [random.choice(lots) for _ in range(random.randrange(1, 5))]
            mixtures = [mixture(some, [random.randrange(1, 30) for _ in some]), random.choice(lots), mixture(lots, [1] * len(lots))]
            for lot in mixtures:
                self.assertTrue(self.judge(*told, lot))
                at, to = random.sample(range(walk.never + 1), 2)
                beside = [part * 10 ** 6 for part in lot]
                beside[at], beside[to] = max(0, beside[at] - sum(lot)), beside[to] + min(sum(lot), beside[at])
                is_inside = inside(lots, lot_of(beside))
                self.assertEqual(self.judge(*told, lot_of(beside)), is_inside)
                yes, no = yes + is_inside, no + (not is_inside)
            for outcome in range(walk.never + 1):
                sure = tuple(int(at == outcome) for at in range(walk.never + 1))
                self.assertEqual(self.judge(*told, sure), sure in lots)
            lot = random_lot(random, walk.never + 1, random.choice((2, 10, 10 ** 60 - 1)))
            self.assertEqual(self.judge(*told, lot), inside(lots, lot))
        self.assertGreater(yes, 30)
        self.assertGreater(no, 100)

    def test_arguments_stay_as_they_are(self):
        for random, system, unit, store, summaries, walk, place in small_webs(59, 40, 20):
            lot = random.choice(walk.lots(place))
            payoff = [random.randrange(9) for _ in range(walk.never + 1)]
            told = table(system, unit, store, summaries, payoff)
            blend = brought(system, unit, store, summaries, lot)
            kept = deepcopy((summaries, payoff, told, blend))
            for call, last in [(corners_of, ()), (brought, (lot,)), (table, (payoff,)), (best, (payoff,)), (is_brought, (lot, blend)),
                               (is_against, (lot, (payoff, told)))]:
                first = call(system, unit, store, summaries, *last)
                tuples = {name: tuple(tuple(lots) for lots in part) for name, part in summaries.items()}
                self.assertEqual(call(system, unit, store, tuples, *last), first)
                self.assertEqual(call(system, unit, store, {**summaries, "more": None}, *last), first)
            self.assertEqual((summaries, payoff, told, blend), kept)

    def test_judges_of_spoiled_values(self):
        good, bad = 0, 0
        for random, system, unit, store, summaries, walk, place in small_webs(55, 35, 9, 4):
            if random.random() < 0.4 and walk.count(place) < 3:
                continue
            lots = walk.lots(place)
            weights = [random.randrange(3) for _ in lots] + [1]
            lot = mixture([*lots, lots[0]], weights)
            values = [brought(system, unit, store, summaries, lot), [(1, pick) for pick in walk.picks(place)]]
            values += [[(2, pick) for pick in random.sample(walk.picks(place), 1)], values[0][::-1] + values[1]]
            outer = random_lot(random, walk.never + 1, 3)
            if not inside(lots, outer):
                lot = random.choice([lot, outer])
            try:
                brought(system, unit, store, summaries, outer)
            except NotBrought as error:
                values.append((error.payoff, error.table))
            for value in values:
                for other in spoiled(value, WRONG):
                    expected = judges.is_blend(walk, place, lot, other), judges.is_against(walk, place, lot, other)
                    self.assertEqual(is_brought(system, unit, store, summaries, lot, other), expected[0], other)
                    self.assertEqual(is_against(system, unit, store, summaries, lot, other), expected[1], other)
                    good, bad = good + any(expected), bad + (not any(expected))
            for value in any_values():
                self.assertIs(is_brought(system, unit, store, summaries, lot, value), False)
                self.assertIs(is_against(system, unit, store, summaries, lot, value), False)
        self.assertGreater(good, 100)
        self.assertGreater(bad, 1000)

    def test_blends_with_many_picks(self):
        system = read_system("name a 2 name b 2 unit u { } unit g { " + "choose x { } or y { draw a 0 by 1 1 by 2 } " * 8 + "call u }")
        summaries = {"u": [[(1, 0, 0, 0, 0)], [(0, 1, 10 ** 41, 0, 1)], [(0, 0, 1, 0, 0)], [(0, 0, 0, 1, 0)]]}
        walk = Walk(system[0], system[1][1][1], summaries)
        place = walk.first(0)
        random = Random(56)
        blend = []
        count = len(walk.choices(place))
        for _ in range(90):
            pick = tuple(random.randrange(2) for _ in range(count))
            if pick not in [one for _, one in blend]:
                blend.append((random.randrange(1, 9), pick))
        lot = judges.blend_lot(walk, place, blend)
        self.assertTrue(is_brought(system, "g", 0, summaries, lot, blend))
        self.assertTrue(is_brought(system, "g", 0, summaries, lot, tuple(blend[::-1])))
        self.assertTrue(is_brought(system, "g", 0, summaries, lot, [(3 * weight, pick) for weight, pick in blend]))
        self.assertFalse(is_brought(system, "g", 0, summaries, lot, blend[1:]))
        self.assertFalse(is_brought(system, "g", 0, summaries, lot, [*blend, blend[0]]))

    def test_errors_in_order(self):
        system = read_system(straight(65).replace("unit g", "unit u { } unit g").replace("} else { } }", "} else { " + TWO * 7 + "} }"))
        lot, payoff = (1, 0, 0, 0, 0, 0, 0, 0, 0), [0] * 9
        calls = [(corners_of, ()), (brought, (None,)), (table, (None,)), (best, (None,)), (is_brought, (None, None)), (is_against, (None, None))]
        for call, last in calls:
            self.refused(InvalidSystem, None, call, None, None, None, None, *last)
            with self.assertRaises(NotFair):
                call((system[0], system[1] * 2), None, None, None, *last)
            self.refused(InvalidUnit, "x", call, system, "x", None, None, *last)
            for store in [None, True, -1, 8, "0", Ratio(0)]:
                self.refused(InvalidStore, store, call, system, "g", store, None, *last)
            self.refused(InvalidSummaries, None, call, system, "g", 0, None, *last)
            self.raised(TooMany, {"count": 65}, call, system, "g", 0, {}, *last)
        for wrong in [*any_values(), lot[1:], (*lot, 0), list(lot), (2, *lot[1:]), (True, *lot[1:]), (-1, *lot[1:-1], 1), (Ratio(1), *lot[1:])]:
            self.refused(InvalidLot, wrong, brought, system, "g", 4, {}, wrong)
            self.refused(InvalidLot, wrong, is_brought, system, "g", 4, {}, wrong, None)
            self.refused(InvalidLot, wrong, is_against, system, "g", 4, {}, wrong, None)
        self.raised(TooMany, {"count": 128}, brought, system, "g", 4, {}, lot)
        self.raised(TooMany, {"count": 128}, corners_of, system, "g", 4, {})
        self.assertIs(is_brought(system, "g", 4, {}, lot, None), False)
        for wrong in [*any_values(), payoff[1:], [*payoff, 0], [True, *payoff[1:]], [Ratio(0), *payoff[1:]], ["0", *payoff[1:]], "0" * 9]:
            self.refused(InvalidPayoff, wrong, table, system, "g", 4, {}, wrong)
            self.refused(InvalidPayoff, wrong, best, system, "g", 4, {}, wrong)
        self.assertEqual(best(system=system, unit="g", store=4, summaries={}, payoff=tuple(range(9))), 4)
        for unit in [None, "x", ["u"]]:
            self.refused(InvalidUnit, unit, summary, system, unit)
        self.refused(InvalidSystem, (), summary, (), None)


class TableTests(ForwardTests):
    def judge(self, walk, place, payoff, told, number):
        """Judges a table as one, and its number of the place as the one of best."""
        self.assertTrue(judges.is_table(walk, place, payoff, told))
        self.assertTrue(number.__class__ is Ratio and all(one.__class__ is Ratio for _, one in told))
        self.assertEqual(fraction(number), payoff[place] if isinstance(place, int) else fraction(dict(told)[place]))

    def test_against_all_picks(self):
        for random, system, unit, store, summaries, walk, place in small_webs(57, 160):
            for payoff in payoffs(random, walk.never):
                told = table(system, unit, store, summaries, payoff)
                number = best(system, unit, store, summaries, payoff)
                self.judge(walk, place, payoff, told, number)
                self.assertEqual(fraction(number), max(walk.mean(place, pick, payoff) for pick in walk.picks(place)))
                row = random.choice(told) if told else None
                if row is not None and walk.count(row[0]) <= 40:
                    self.assertEqual(fraction(row[1]), max(walk.mean(row[0], pick, payoff) for pick in walk.picks(row[0])))
            all_new(self, [list(one) for one in told], [list(one) for one in table(system, unit, store, summaries, tuple(payoff))])
            all_new(self, told, table(payoff=payoff, summaries=summaries, store=store, unit=unit, system=system))

    def test_with_many_picks(self):
        """Tables of webs with many picks bound all means, and a pick that is found off the table has the mean."""
        random = Random(58)
        seen = 0
        for _ in range(400):
            system = SmallMaker(random, 9, [(2, 3), (2, 2, 2), (6,), (2, 4)]).system()
            unit, body = random.choice(system[1])
            summaries = random_summaries(random, system, unit)
            walk = Walk(system[0], body, summaries)
            store = random.randrange(walk.never)
            place = walk.first(store)
            counts = [len(walk.moves(row)) for row in walk.choices(place)]
            if len(walk.met(place)) > 64 or len(counts) < 7:
                continue
            seen += 1
            for payoff in list(payoffs(random, walk.never))[3:]:
                told = table(system, unit, store, summaries, payoff)
                number = best(system, unit, store, summaries, payoff)
                self.judge(walk, place, payoff, told, number)
                pick = pick_for(walk, place, payoff, {row: fraction(one) for row, one in told})
                self.assertEqual(walk.mean(place, pick, payoff), fraction(number))
        self.assertGreater(seen, 15)

    def test_two_to_the_fortieth(self):
        system = read_system("name a 2 unit g { " + "choose x { } or y { draw a 0 by 1 1 by 3 } " * 7 + "choose x { } or y { } " * 6 + "}")
        walk = Walk(system[0], system[1][0][1])
        body = "while a = 0 { " + "choose x { set a = 1 - a } or y { } " * 9 + "} "
        big = read_system("name a 2 name b 3 unit g { " + body + "}")
        for rules, store in [(system, 0), (big, 0)]:
            walk = Walk(rules[0], rules[1][0][1])
            place = walk.first(store)
            self.assertGreater(2 ** len(walk.choices(place)), 10 ** 5)
            for payoff in [[0] * walk.never + [1], [1] * walk.never + [0], list(range(walk.never + 1)), list(range(walk.never, -1, -1))]:
                told = table(rules, "g", store, {}, payoff)
                self.judge(walk, place, payoff, told, best(rules, "g", store, {}, payoff))
                pick = pick_for(walk, place, payoff, {row: fraction(one) for row, one in told})
                self.assertEqual(walk.mean(place, pick, payoff), fraction(best(rules, "g", store, {}, payoff)))
                self.assertTrue(is_brought(rules, "g", store, {}, walk.lot(place, pick), [(5, pick)]))
                for outcome in range(walk.never + 1):
                    sure = tuple(int(at == outcome) for at in range(walk.never + 1))
                    self.assertIs(is_against(rules, "g", store, {}, sure, (payoff, told)), payoff[outcome] > fraction(dict(told)[place]))

    def test_never(self):
        for text, payoff, numbers in [
            ("while yes { }", [5, 5, -3], [-3]),
            ("while a = 0 { choose x { } or y { set a = 1 } }", [9, 1, 0], [1, 1]),
            ("while a = 0 { choose x { } or y { set a = 1 } }", [9, 1, 2], [2, 2]),
            ("while a = 0 { choose x { } or y { set a = 1 } }", [9, -4, -5], [-4, -4]),
            ("while a = 0 { draw a 0 by 1 1 by 1 }", [9, -4, 5], [-4, -4]),
            ("while yes { choose x { while a = 0 { set a = 1 } } or y { set a = 0 } }", [1, 1, 0], [0] * 5),
            ("choose x { while yes { } } or y { draw a 0 by 1 1 by 2 }", [3, 0, 2], [2, 2, 1]),
            ("choose x { while yes { } } or y { draw a 0 by 1 1 by 2 }", [9, 3, 2], [5, 2, 5]),
        ]:
            system = read_system(f"name a 2 unit g {{ {text} }}")
            told = table(system, "g", 0, {}, payoff)
            self.assertEqual([number for _, number in told], numbers)
            self.assertEqual(best(system, "g", 0, {}, payoff), numbers[0])
        called = read_system("name a 2 unit u { } unit g { while a = 0 { call u } }")
        for payoff, numbers in [([0, 6, 0], [4, 4]), ([0, 6, 9], [9, 9]), ([9, -6, 0], [0, 0]), ([9, -6, -9], [-7, -7])]:
            lots = {"u": [[(0, 2, 1), (1, 0, 0)], [(0, 1, 0)]]}
            self.assertEqual([number for _, number in table(called, "g", 0, lots, payoff)], numbers)

    def test_places_that_are_ends(self):
        system = read_system("name a 3 unit g { set a = a + 1 }")
        self.assertEqual([best(system, "g", store, {}, [7, 8, 9, 1]) for store in range(3)], [8, 9, 7])
        self.assertEqual(table(system, "g", 0, {}, [7, 8, 9, 1]), [])
        self.assertIs(best(system, "g", 0, {}, [7, 8, 9, 1]).__class__, Ratio)
        self.assertTrue(is_against(system, "g", 0, {}, (0, 1, 1, 0), ([7, 8, 9, 1], [])))
        self.assertFalse(is_against(system, "g", 0, {}, (1, 1, 1, 0), ([7, 8, 9, 1], [])))


def pick_for(walk, place, payoff, numbers):
    """A pick that has the mean of a least table: rows are done where their move with this mean leads to what is done."""
    rows = walk.met(place)
    numbers = {**numbers, **dict(enumerate(map(Fraction, payoff)))}
    tight = {row: [index for index, move in enumerate(walk.moves(row))
                   if sum(chance * numbers[further] for further, chance in move.items()) == numbers[row]] for row in rows}
    chosen = {}
    # rows with never's number may go on among such rows for ever
    inside_of = {row for row in rows if numbers[row] == payoff[-1]}
    while True:
        stays = {row: [index for index in tight[row] if set(walk.moves(row)[index]) <= inside_of] for row in inside_of}
        left = {row for row in inside_of if stays[row]}
        if left == inside_of:
            break
        inside_of = left
    for row in inside_of:
        chosen[row] = stays[row][0]
    while len(chosen) < len(rows):
        more = {}
        for row in rows:
            if row not in chosen:
                for index in tight[row]:
                    if any(not isinstance(further, tuple) or further in chosen for further in walk.moves(row)[index]):
                        more[row] = index
        assert more, "a table that no pick has is not the least one"
        chosen.update(more)
    return tuple(chosen[row] for row in walk.choices(place))


class SpeedTests(unittest.TestCase):
    def test_sixty_four_rows_and_picks(self):
        draws = "draw a 0 by 5 1 by 7 draw b 0 by 11 1 by 3 draw c 1 by 2 0 by 5 "
        text = "name a 2 name b 2 name c 2 unit g { " + draws + "while a = b { draw c 0 by 3 1 by 7 draw a 0 by 1 1 by 4 " \
            "if c = 0 { choose x { draw b 0 by 1 1 by 11 } or y { draw a 0 by 7 1 by 5 } } else { } draw c 0 by 2 1 by 9 } " \
            "if [a = 0] and [b = 1] { choose x { draw c 0 by 3 1 by 7 } or y { draw a 0 by 1 1 by 6 } } else { } draw b 0 by 3 1 by 4 }"
        system = read_system(text)
        walk = Walk(system[0], system[1][0][1])
        self.assertEqual((len(walk.met(walk.first(0))), walk.count(walk.first(0))), (51, 64))
        for call in (lambda: corners_of(system, "g", 0, {}), lambda: table(system, "g", 0, {}, list(range(9))),
                     lambda: brought(system, "g", 0, {}, corners_of(system, "g", 0, {})[0])):
            begun = time.time()
            call()
            self.assertLess(time.time() - begun, 1)


if __name__ == "__main__":
    unittest.main()
