import time
import unittest
from copy import deepcopy
from random import Random

from fairpatch.checks import with_body
from fairpatch.errors import (
    InvalidBody, InvalidRow, InvalidSystem, InvalidUnit, NotBrought, NotFair, PatchError, TooGreat, TooMany, TooRich,
)
from fairpatch.forward import best, brought, is_against, summary
from fairpatch.picks import lot_by
from fairpatch.stands import is_paper_at, is_paper_for, paper_at, paper_for, stands_at, stands_for
from fairpatch.texts import read_system
from fairpatch.webs import web
from tests import judges
from tests.judges import all_new
from tests.samples import any_values
from tests.small import SmallMaker, random_summaries, spoiled
from tests.test_forward import GREAT, WRONG, inside, plain_summary, tree
from tests.test_picks import THREE, TWO
from tests.test_webs import straight
from tests.walks import Walk, bodies_of, mean_of, part_at, paths_of


def walks_of(system, unit, body):
    """The walks of the new unit and of the published one over published units, None if there is too much in them."""
    published, told = dict(system[1])[unit], {}
    for name, _ in system[1]:
        if name == unit:
            break
        told[name] = plain_summary(system, name)
    walks = []
    for one in (body, published):
        called = [part_at(one, path)[1] for path in paths_of(one) if part_at(one, path)[0] == "call"]
        if any(told[name] is None for name in called):
            return None
        walk = Walk(system[0], one, told)
        for store in range(walk.never):
            place = walk.first(store)
            if not walk.has_few(place, 40, 30):
                return None
        walks.append(walk)
    return walks


def with_part(body, path, statements):
    """A body with other statements in the place of the one with a path."""
    at = path[0]
    if len(path) == 1:
        return (*body[:at], *statements, *body[at + 1:])
    owner = body[at]
    inner = [with_part(part, path[2:], statements) if index == path[1] else part for index, part in enumerate(bodies_of(owner))]
    if owner[0] == "choose":
        return (*body[:at], ("choose", tuple((label, part) for (label, _), part in zip(owner[1], inner))), *body[at + 1:])
    return (*body[:at], (*owner[:2], *inner), *body[at + 1:])


def patches(random, maker, system, unit):
    """Bodies that may stand for the one of a unit: parts changed, and others."""
    names, body = system[0], dict(system[1])[unit]
    ahead = [name for name, _ in system[1]][:[name for name, _ in system[1]].index(unit)]
    yield body
    yield maker.body(names, ahead)
    for path in list(paths_of(body)):
        statement = part_at(body, path)
        yield with_part(body, path, ())
        if statement[0] == "choose":
            pairs = list(statement[1])
            yield with_part(body, path, random.choice(pairs)[1])
            random.shuffle(pairs)
            yield with_part(body, path, (("choose", tuple(pairs)),))
            if len(pairs) == 3:
                yield with_part(body, path, (("choose", tuple(pairs[1:])),))
        if statement[0] == "draw":
            yield with_part(body, path, (("choose", tuple((label, (("set", statement[1], ("num", value)),))
                                                          for label, (value, _) in zip("pqr", statement[2]))),))
            changed = tuple((value, weight + random.randrange(2)) for value, weight in statement[2])
            yield with_part(body, path, (("draw", statement[1], changed),))
        if statement[0] == "while":
            yield with_part(body, path, (("if", statement[1], (*statement[2], statement), ()),))
            yield with_part(body, path, (("if", statement[1], statement[2], ()),))


def cases(seed, count, most=4):
    """Random systems with a patch of one unit, and the walks of both bodies."""
    random = Random(seed)
    while count:
        maker = SmallMaker(random, most)
        system = maker.system()
        unit = random.choice(system[1])[0]
        for body in random.sample(list(patches(random, maker, system, unit)), 2):
            try:
                with_body(system, unit, body)
            except PatchError:
                continue
            walks = walks_of(system, unit, body)
            if walks is not None and count:
                count -= 1
                yield random, system, unit, body, *walks


class StandTests(unittest.TestCase):
    def refused(self, error, given, call, *arguments):
        with self.assertRaises(error) as caught:
            call(*arguments)
        self.assertIs(caught.exception.given, given)

    def raised(self, error, attributes, *arguments):
        """The three functions with a body raise this, whatever the value is."""
        for call, last in [(stands_for, ()), (paper_for, ()), (is_paper_for, (None,)), (is_paper_for, (("yes", []),))]:
            with self.assertRaises(error) as caught:
                call(*arguments, *last)
            self.assertEqual(vars(caught.exception), attributes)

    def test_against_walks(self):
        verdicts = {True: 0, False: 0}
        for random, system, unit, body, new, old in cases(61, 360):
            bad = [store for store in range(new.never)
                   if not all(inside(old.lots(old.first(store)), lot) for lot in new.lots(new.first(store)))]
            stands = not bad
            verdicts[stands] += len(new.choices(new.first(0))) > 0
            self.assertIs(stands_for(system, unit, body), stands)
            paper = paper_for(system, unit, body)
            self.assertIs(paper.__class__, tuple)
            self.assertEqual(paper[0], "yes" if stands else "no")
            self.assertTrue(judges.is_paper_for(new, old, paper))
            self.assertIs(is_paper_for(system, unit, body, paper), True)
            all_new(self, paper, paper_for(body=body, unit=unit, system=system))
            if stands:
                self.assertIs(paper[1].__class__, list)
                self.payoffs_never_greater(random, system, unit, body, new)
            else:
                self.assertEqual(paper[1], bad[0])
                self.payoff_is_greater(system, unit, body, new, *paper[1:])
        self.assertGreater(min(verdicts.values()), 20)

    def payoffs_never_greater(self, random, system, unit, body, new):
        told, changed = new.summaries, with_body(system, unit, body)
        payoff = [random.randrange(-4, 5) for _ in range(new.never + 1)]
        for store in range(new.never):
            self.assertFalse(best(system, unit, store, told, payoff).below(best(changed, unit, store, told, payoff)))

    def payoff_is_greater(self, system, unit, body, new, store, pick, payoff, table):
        told, changed = new.summaries, with_body(system, unit, body)
        lot = lot_by(changed, unit, store, told, pick)
        self.assertTrue(best(system, unit, store, told, payoff).below(best(changed, unit, store, told, payoff)))
        self.assertTrue(is_against(system, unit, store, told, lot, (payoff, table)))
        self.assertGreater(mean_of(lot, payoff), judges.fraction(best(system, unit, store, told, payoff)))

    def test_spoiled_papers(self):
        seen = {True: 0, False: 0}
        for random, system, unit, body, new, old in cases(62, 14, 3):
            paper = paper_for(system, unit, body)
            values = [paper]
            if paper[0] == "no":
                values += other_refusals(random, system, unit, new, old)
            else:
                values.append(("yes", [[(lot, all_of(old, store, lot) or blend) for lot, blend in part]
                                       for store, part in enumerate(paper[1])]))
            for value in values:
                self.assertTrue(judges.is_paper_for(new, old, value))
                kept = deepcopy(value)
                others = list(spoiled(value, WRONG))
                for other in random.sample(others, min(120, len(others))):
                    expected = judges.is_paper_for(new, old, other)
                    self.assertIs(is_paper_for(system, unit, body, other), expected, other)
                    seen[expected] += 1
                self.assertIs(is_paper_for(value=value, body=body, unit=unit, system=system), True)
                self.assertEqual(value, kept)
            for value in [*any_values(), ("yes",), ("no",), ("yes", 1), ("no", 0), ["yes", paper[1]], ("Yes", paper[1]), ("no", *paper[1:], 1)]:
                self.assertIs(is_paper_for(system, unit, body, value), False)
        self.assertGreater(min(seen.values()), 30)

    def test_least_store(self):
        system = read_system("name a 3 unit g { if a = 2 { draw a 0 by 1 1 by 1 } else { set a = 0 } }")
        for text, store in [("set a = 0", 2), ("if a = 0 { set a = 0 } else { set a = 1 }", 1), ("set a = 1", 0),
                            ("if a = 2 { draw a 0 by 1 1 by 2 } else { set a = 0 }", 2), ("while yes { }", 0)]:
            body = read_system(f"name a 3 unit g {{ {text} }}")[1][0][1]
            self.assertEqual(paper_for(system, "g", body)[:2], ("no", store))
        body = read_system("name a 3 unit g { if a = 2 { draw a 1 by 3 0 by 3 } else { set a = a - a } }")[1][0][1]
        self.assertEqual(paper_for(system, "g", body), ("yes", [
            [((1, 0, 0, 0), [(1, ())])], [((1, 0, 0, 0), [(1, ())])], [((1, 1, 0, 0), [(1, ())])]]))

    def test_always_stand(self):
        """[97], at any place of a body; in the last two kinds both ways."""
        seen = {}
        for random, system, unit, body, new, old in cases(63, 250):
            for path in list(paths_of(body)):
                for kind, first, second, both in always(random, part_at(body, path), system[0]):
                    left, right = with_part(body, path, first), with_part(body, path, second)
                    for published, fresh in [(left, right)] + [(right, left)] * both:
                        try:
                            self.assertIs(stands_for(with_body(system, unit, published), unit, fresh), True)
                            seen[kind] = seen.get(kind, 0) + 1
                        except (TooMany, TooRich, InvalidBody):
                            pass
        self.assertEqual(set(seen), {"one pair less", "one body", "order", "draw", "unrolled"})
        self.assertGreater(min(seen.values()), 10)

    def test_chains(self):
        random, found = Random(64), 0
        for _ in range(100):
            maker = SmallMaker(random, 4)
            system = maker.system()
            unit = random.choice(system[1])[0]
            try:
                self.assertTrue(stands_for(system, unit, dict(system[1])[unit]))
                for second in list(patches(random, maker, system, unit))[:8]:
                    if stands_for(system, unit, second):
                        middle = with_body(system, unit, second)
                        for third in list(patches(random, maker, middle, unit))[:8]:
                            if stands_for(middle, unit, third):
                                self.assertTrue(stands_for(system, unit, third))
                                found += third != second
            except (TooMany, TooRich, TooGreat, InvalidBody, NotFair):
                continue
        self.assertGreater(found, 30)

    def test_callers(self):
        """[99]: with several bodies that stand for the published ones, no unit brings more."""
        random, found = Random(65), 0
        for _ in range(150):
            maker = SmallMaker(random, 4)
            system = maker.system(3)
            changed = system
            try:
                for unit, _ in system[1]:
                    for body in list(patches(random, maker, system, unit))[1:7]:
                        if stands_for(system, unit, body):
                            changed = with_body(changed, unit, body)
                if changed == system:
                    continue
                for unit, _ in system[1]:
                    for fresh, elder in zip(summary(changed, unit), summary(system, unit)):
                        self.assertTrue(all(inside(elder, lot) for lot in fresh))
                        found += fresh != elder
            except (TooMany, TooRich, TooGreat, InvalidBody, NotFair):
                continue
        self.assertGreater(found, 10)

    def test_what_hangs_on_nothing(self):
        """[91]: what stands behind the unit and what calls it means nothing."""
        for random, system, unit, body, *_ in cases(66, 40):
            at = [name for name, _ in system[1]].index(unit)
            cut = (system[0], system[1][:at + 1])
            self.assertEqual(paper_for(system, unit, body), paper_for(cut, unit, body))

    def test_errors_of_bodies(self):
        system = read_system("name a 2 unit u { } unit g { call u }")
        for value in [*any_values(), [("call", "u")], (("call", "u"),) * 21]:
            if value == ():
                continue
            for call, last in [(stands_for, ()), (paper_for, ()), (is_paper_for, (value,))]:
                self.refused(InvalidBody, value, call, system, "g", value, *last)
                self.refused(InvalidUnit, value, call, system, value, value, *last)
                self.refused(InvalidSystem, value, call, value, None, None, *last)
        self.raised(NotFair, {"reason": "call", "unit": "u", "word": "u"}, system, "u", (("call", "u"),))
        self.raised(NotFair, {"reason": "name", "unit": "g", "word": "b"}, system, "g", (("set", "b", ("num", 0)),))
        self.assertTrue(is_paper_for(value=("yes", [[((1, 0, 0), ((1, ()),))], [((0, 1, 0), [(1, ())])]]),
                                     body=(), unit="g", system=system))

    def test_errors_in_order(self):
        names = "name a 2 name b 2 name c 2 "
        many = {"low": "unit low { if a = 1 { " + TWO * 7 + "} else { } } ",
                "rich": "unit rich { if [c = 1] and [a + b = 0] { " + tree(7) + "} else { } } ",
                "rowy": straight(66)[len(names):].replace("unit g", "unit rowy") + " "}
        expected = {"low": (TooMany, {"count": 128}), "rich": (TooRich, {"unit": "rich", "store": 1, "count": 7}),
                    "rowy": (TooMany, {"count": 66})}
        for first in many:
            for second in many:
                if first != second:
                    text = names + many[first] + many[second] + f"unit v {{ call {second} }} "
                    system = read_system(text + f"unit g {{ call {first} }}")
                    # the published unit calls one, the new one calls the other one, by way of v
                    self.raised(*expected[first], system, "g", (("call", "v"),))
                    self.raised(*expected[second], read_system(text + "unit g { }"), "g", (("call", "v"),))
                    self.raised(*expected[first], read_system(text + "unit g { call v }"), "g", (("call", first),))
                    self.assertTrue(stands_for(read_system(text + "unit g { }"), "g", ()))
                    self.raised(*expected[first], read_system(text + f"unit g {{ {THREE * 4} call {first} }}"), "g", ())
        twos = read_system(names + "unit g { if [a = 1] and [c = 1] { " + TWO * 7 + "} else { } }")[1][0][1]
        threes = read_system(names + "unit g { if c = 0 { " + THREE * 4 + "} else { } }")[1][0][1]
        plain = read_system(names + "unit g { }")
        self.raised(TooMany, {"count": 128}, with_body(plain, "g", twos), "g", threes)
        self.raised(TooMany, {"count": 81}, with_body(plain, "g", threes), "g", twos)
        self.raised(TooMany, {"count": 81}, plain, "g", threes)

    def test_more_than_six_corners(self):
        system = read_system("name a 2 name b 2 name c 2 unit g { if [c = 1] and [a + b = 0] { " + tree(8) + "} else { } } ")
        body = system[1][0][1]
        self.assertEqual([len(part) for part in paper_for(system, "g", body)[1]], [1, 8, 1, 1, 1, 1, 1, 1])
        self.assertTrue(is_paper_for(system, "g", body, paper_for(system, "g", body)))
        self.assertEqual(paper_for(read_system("name a 2 name b 2 name c 2 unit g { }"), "g", body)[:2], ("no", 1))

    def test_too_great(self):
        system = read_system(GREAT + "unit ud { call uc }")
        told = {"unit": "uc", "store": 1}
        self.raised(TooGreat, told, system, "ud", ())
        self.raised(TooGreat, told, read_system(GREAT + "unit ud { }"), "ud", (("call", "uc"),))
        self.raised(TooGreat, told, system, "uc", ())
        self.raised(TooGreat, told, with_body(system, "uc", ()), "uc", system[1][2][1])
        self.assertTrue(stands_for(system, "ub", system[1][1][1]))


def other_refusals(random, system, unit, new, old):
    """Other papers against a body: from each store, with each pick whose lot is not brought."""
    for store in range(new.never):
        for pick in new.picks(new.first(store)):
            lot = new.lot(new.first(store), pick)
            if not inside(old.lots(old.first(store)), lot):
                changed = (system[0], tuple((name, old.body if name == unit else body) for name, body in system[1]))
                try:
                    brought(changed, unit, store, old.summaries, lot)
                except NotBrought as error:
                    yield ("no", store, pick, error.payoff, error.table)


def all_of(old, store, lot):
    """A blend of all picks that bring a lot, from a store, None if no pick does."""
    place = old.first(store)
    return [(at + 1, pick) for at, pick in enumerate(old.picks(place)) if old.lot(place, pick) == lot] or None


def always(random, statement, names):
    """For a statement, tuples (kind, published statements, new ones, whether they stand for each other)."""
    name, size = random.choice(names)
    values = random.sample(range(size), min(size, random.choice((2, 3))))
    some = random.sample(values, random.randrange(2, len(values) + 1))
    sets = tuple((label, (("set", name, ("num", value)),)) for label, value in zip("pqr", values))
    yield "draw", (("choose", sets),), (("draw", name, tuple((value, random.randrange(1, 13)) for value in some)),), False
    if statement[0] == "choose":
        pairs = statement[1]
        at = random.randrange(len(pairs))
        yield "one body", (statement,), pairs[at][1], False
        if len(pairs) == 3:
            yield "one pair less", (statement,), (("choose", pairs[:at] + pairs[at + 1:]),), False
        others = tuple((label, body) for label, (_, body) in zip(random.sample("uvw", len(pairs)), random.sample(pairs, len(pairs))))
        yield "order", (statement,), (("choose", others),), True
    if statement[0] == "while":
        yield "unrolled", (statement,), (("if", statement[1], (*statement[2], statement), ()),), True


class PlaceTests(unittest.TestCase):
    def places(self, walk):
        return list(range(walk.never + 1)) + [row for row in walk.all_rows()
                                              if walk.has_few(row, 30, 20)]

    def webs(self, seed, count):
        """Two webs of bodies over the same names, sometimes one twice, with their walks."""
        random = Random(seed)
        for _ in range(count):
            maker = SmallMaker(random, 4)
            system = maker.system(2)
            unit, body = system[1][1]
            told = random_summaries(random, system, unit, 2, 2)
            other = random.choice([body, *patches(random, maker, system, unit)])
            try:
                changed = with_body(system, unit, other)
            except PatchError:
                continue
            calls = random_summaries(random, changed, unit, 2, 2)
            near = web(system, unit, told)
            if random.random() < 0.3:
                yield random, near, Walk(system[0], body, told), near, Walk(system[0], body, told)
            else:
                yield random, near, Walk(system[0], body, told), web(changed, unit, calls), Walk(system[0], other, calls)

    def test_against_walks(self):
        seen = {True: 0, False: 0}
        for random, net, walk, other, far in self.webs(67, 220):
            for _ in range(4):
                place, spot = random.choice(self.places(walk)), random.choice(self.places(far))
                stands = all(inside(far.lots(spot), lot) for lot in walk.lots(place))
                self.assertIs(stands_at(net, place, other, spot), stands)
                paper = paper_at(web=net, place=place, other=other, spot=spot)
                self.assertEqual(paper[0], "yes" if stands else "no")
                self.assertTrue(judges.is_paper_at(walk, place, far, spot, paper))
                self.assertIs(is_paper_at(net, place, other, spot, paper), True)
                all_new(self, paper, paper_at(net, place, other, spot))
                seen[stands] += isinstance(place, tuple)
            place = random.choice(self.places(walk))
            self.assertTrue(stands_at(net, place, net, place))
        self.assertGreater(min(seen.values()), 50)

    def test_spoiled_papers(self):
        seen = {True: 0, False: 0}
        for random, net, walk, other, far in self.webs(68, 25):
            place, spot = random.choice(self.places(walk)), random.choice(self.places(far))
            paper = paper_at(net, place, other, spot)
            told = list(spoiled(paper, WRONG))
            for value in random.sample(told, min(60, len(told))):
                expected = judges.is_paper_at(walk, place, far, spot, value)
                self.assertIs(is_paper_at(net, place, other, spot, value), expected, value)
                seen[expected] += 1
            for value in [*any_values(), ("yes",), ("no",), ["no", *paper[1:]], list(paper), (*paper, 1)]:
                self.assertIs(is_paper_at(value=value, spot=spot, other=other, place=place, web=net), False)
        self.assertGreater(seen[False], 500)
        self.assertGreater(seen[True], 10)

    def test_outcomes_and_first_places(self):
        system = read_system("name a 2 unit g { choose x { set a = 0 } or y { set a = 1 } or z { while yes { } } }")
        net = web(system, "g", {})
        for outcome in range(3):
            sure = tuple(int(at == outcome) for at in range(3))
            self.assertEqual(paper_at(net, outcome, net, outcome), ("yes", [(sure, [(1, ())])]))
            self.assertEqual(paper_at(net, outcome, net, ((0,), 0)), ("yes", [(sure, [(1, (outcome,))])]))
            self.assertFalse(stands_at(net, ((0,), 0), net, outcome))
            for spot in range(3):
                self.assertIs(stands_at(net, outcome, net, spot), outcome == spot)
        no = paper_at(net, 0, net, 2)
        self.assertEqual((no[0], no[1], no[3]), ("no", (), []))
        self.assertEqual(paper_at(net, ((0, 2, 0), 0), net, 2), ("yes", [((0, 0, 1), [(1, ())])]))
        self.assertTrue(is_paper_at(net, 0, net, 1, ("no", (), [1, 0, 0], [])))
        self.assertTrue(is_paper_at(net, 0, net, 1, ("no", (), (1, 0, 0), ())))
        self.assertFalse(is_paper_at(net, 0, net, 1, ("no", (), [0, 0, 0], [])))
        self.assertFalse(is_paper_at(net, 0, net, 1, ("no", [], [1, 0, 0], [])))
        self.assertTrue(is_paper_at(net, ((0,), 1), net, 1, ("no", (0,), [1, 0, 0], [])))
        self.assertFalse(is_paper_at(net, ((0,), 1), net, 1, ("no", (1,), [1, 0, 0], [])))

    def test_errors_in_order(self):
        system = read_system(straight(65).replace("unit g", "unit u { } unit g").replace(
            "} else { } }", "} else { if b = 0 { call u } else { " + THREE * 4 + "} } }"))
        great = 10 ** 40
        lots = [[tuple([1] + [0] * 8)] for _ in range(8)]
        lots[5] = [tuple([great, 1] + [0] * 7)]
        net, low = web(system, "g", {"u": lots}), web(system, "g", {"u": [[tuple([1] + [0] * 8)]] * 8})
        rowy, twos, calls = net.first(0), net.first(6), net.first(5)
        self.assertEqual(system[1][1][1][0][3][0][2], (("call", "u"),))
        wrong = [*[one for one in any_values() if not isinstance(one, int) or isinstance(one, bool)], -1, 9, ((0,), 0), (rowy[0], True)]
        for call, last in [(stands_at, ()), (paper_at, ()), (is_paper_at, (None,)), (is_paper_at, (("yes", []),))]:
            for value in wrong:
                with self.assertRaises(InvalidRow) as caught:
                    call(net, value, net, "spot", *last)
                self.assertIs(caught.exception.given, value)
                with self.assertRaises(InvalidRow) as caught:
                    call(net, rowy, net, value, *last)
                self.assertIs(caught.exception.given, value)
            for places, error, attributes in [
                ((rowy, twos), TooMany, {"count": 65}), ((twos, rowy), TooMany, {"count": 81}), ((calls, rowy), TooGreat, {"unit": None, "store": 5}),
                ((0, twos), TooMany, {"count": 81}), ((8, calls), TooGreat, {"unit": None, "store": 5}), ((rowy, calls), TooMany, {"count": 65}),
            ]:
                with self.assertRaises(error) as caught:
                    call(net, places[0], net, places[1], *last)
                self.assertEqual(vars(caught.exception), attributes)
            with self.assertRaises(TooGreat):
                call(low, calls, net, calls, *last)
        self.assertTrue(stands_at(low, calls, low, 0))

    def test_webs_stay_as_they_are(self):
        for random, net, walk, other, far in self.webs(69, 20):
            rows = walk.all_rows()
            before = [net.moves(row) for row in rows]
            stands_at(net, 0, other, far.first(0)) if far.first(0) in self.places(far) else None
            self.assertEqual([net.moves(row) for row in rows], before)
            self.assertEqual([net.first(store) for store in range(walk.never)], [walk.first(store) for store in range(walk.never)])


class SpeedTests(unittest.TestCase):
    def test_many_rows_and_picks(self):
        head = "draw a 0 by 5 1 by 7 draw b 0 by 11 1 by 3 draw c 1 by 2 0 by 5 "
        loop = "while a = b { draw c 0 by 3 1 by 7 draw a 0 by 1 1 by 4 " \
            "if c = 0 { choose x { draw b 0 by 1 1 by 11 } or y { draw a 0 by 7 1 by 5 } } else { } draw c 0 by 2 1 by 9 } "
        tail = "if [a = 0] and [b = 1] { choose x { draw c 0 by 3 1 by 7 } or y { draw a 0 by 1 1 by 6 } } else { } draw b 0 by 3 1 by 4"
        names = "name a 2 name b 2 name c 2 "
        system = read_system(names + "unit g { " + head + loop + tail + " }")
        others = ["set a = a " + head + loop + tail, head + loop.replace("0 by 1 1 by 11", "0 by 1 1 by 10") + tail]
        for text in others:
            body = read_system(names + "unit g { " + text + " }")[1][0][1]
            begun = time.time()
            paper = paper_for(system, "g", body)
            between = time.time()
            self.assertTrue(is_paper_for(system, "g", body, paper))
            self.assertLess(between - begun, 3)
            self.assertLess(time.time() - between, 3)


if __name__ == "__main__":
    unittest.main()
