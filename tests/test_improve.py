import time
import unittest
from random import Random

from fairpatch.checks import is_fair, with_body
from fairpatch.errors import InvalidSystem, InvalidUnit, NotFair, TooGreat, TooMany, TooRich
from fairpatch.forward import corners_of, summary
from fairpatch.improve import (
    alike_editions, can_end, course_of, improved, improved_system, is_course, is_step, steps, stores_at,
)
from fairpatch.picks import picks
from fairpatch.ratios import Ratio
from fairpatch.registry import Registry
from fairpatch.stands import stands_for
from fairpatch.texts import is_tree, read_system
from tests.houses import CLUB, HouseMaker, small_registry, walks_below
from tests.judges import all_new
from tests.samples import TreeMaker, any_values
from tests.small import spoiled
from tests.test_forward import GREAT, tree
from tests.test_picks import THREE, TWO
from tests.test_stands import with_part
from tests.walks import Walk, bodies_of, part_at, paths_of, true_in, value_in

BITS, EIGHT = "name a 2 name b 2 ", "name a 2 name b 2 name c 2 "
OTHERS = [None, True, False, 0, 1, (), [], "dead", "idle"]
RICH = "unit rich { if [c = 1] and [a + b = 0] { " + tree(7) + "} else { } } "
LOW = "unit low { if a = 1 { " + TWO * 7 + "} else { } } "


class Statements(Walk):
    """A walk statement by statement, with told ends of what is called."""

    def __init__(self, system, unit, ends):
        super().__init__(system[0], dict(system[1])[unit])
        self.ends = ends

    def onward(self, path, store):
        statement, values = part_at(self.body, path), self.space.values_of(store)
        kind = statement[0]
        if kind == "set":
            return {(self.after(path), self.given(store, statement[1], value_in(statement[2], values)))}
        if kind == "draw":
            return {(self.after(path), self.given(store, statement[1], value)) for value, _ in statement[2]}
        if kind == "call":
            return {(self.after(path), end) for end in self.ends[statement[1]][store]}
        if kind == "if":
            return {(self.inside(path, 0 if true_in(statement[1], values) else 1), store)}
        if kind == "while":
            return {(self.inside(path, 0) if true_in(statement[1], values) else self.after(path), store)}
        return {(self.inside(path, index), store) for index in range(len(statement[1]))}

    def come_to(self, stores):
        """All points with stores that are come to, rounds until nothing is new."""
        found = {((0,) if self.body else None, store) for store in stores}
        while True:
            more = found | {one for point, store in found if point is not None for one in self.onward(point, store)}
            if more == found:
                return found
            found = more


def ends_of(system, unit):
    told = {}
    for name, _ in system[1]:
        walk = Statements(system, name, told)
        told[name] = [sorted(end for point, end in walk.come_to([store]) if point is None) for store in range(walk.never)]
        if name == unit:
            return told


def stores_of(system, unit):
    walk = Statements(system, unit, ends_of(system, unit))
    found = walk.come_to(range(walk.never))
    return [(path, sorted(store for point, store in found if point == path)) for path in paths_of(walk.body)]


def own_steps(system, unit):
    """The steps of a unit, by the words of the document, one kind after the other."""
    body, names, found = dict(system[1])[unit], dict(system[0]), []
    walk = Walk(system[0], body)
    for path, stores in stores_of(system, unit):
        statement = part_at(body, path)
        kind = statement[0]
        if not stores:
            found.append((path, "dead", with_part(body, path, ())))
            continue
        def add(word, statements):
            found.append((path, word, with_part(body, path, statements)))
        values = [walk.space.values_of(store) for store in stores]
        own = body if len(path) == 1 else part_at(body, path[:-1])
        behind = own[path[-1] + 1] if path[-1] + 1 < len(own) else ("none",)
        if kind == "set":
            given = {value_in(statement[2], told) % names[statement[1]] for told in values}
            if statement[2][0] != "num" and len(given) == 1:
                add("folded", (("set", statement[1], ("num", given.pop())),))
            if all(walk.given(store, statement[1], value_in(statement[2], told)) == store for store, told in zip(stores, values)):
                add("idle", ())
        if kind == "while":
            if all(true_in(statement[1], told) for told in values) and statement[1] != ("yes",):
                add("folded", (("while", ("yes",), statement[2]),))
            if not any(true_in(statement[1], told) for told in values):
                add("past", ())
        if kind in ("set", "draw"):
            if behind[0] == "set" and behind[1] == statement[1] and f"'name', '{statement[1]}'" not in repr(behind[2]):
                add("lost", ())
            elif kind == "draw" and behind[:2] == statement[:2]:
                add("lost", ())
        if kind in ("if", "choose") and len(set(bodies_of(statement))) == 1:
            add("same", bodies_of(statement)[0])
        if kind == "if":
            if all(true_in(statement[1], told) for told in values):
                add("told", statement[2])
            elif not any(true_in(statement[1], told) for told in values):
                add("told", statement[3])
    return found


def weight(body):
    """The number that each step lowers."""
    total = 0
    for path in paths_of(body):
        statement = part_at(body, path)
        total += 1 + (statement[0] == "set" and statement[2][0] != "num") + (statement[0] == "while" and statement[1] != ("yes",))
    return total


class TwiceMaker(HouseMaker):
    """Small systems with much that can be improved: equal statements, empty bodies, sets one behind the other."""

    def statements(self, names, ahead, loops, chance):
        found = list(super().statements(names, ahead, loops, chance))
        if found and self.random.random() < 0.4:
            at = self.random.randrange(len(found))
            found.insert(at, found[at])
            self.left = max(self.left - 1, 0)
        if found and self.random.random() < 0.3:
            name, size = self.random.choice(names)
            found.append(("set", name, ("num", self.random.randrange(size))))
        return tuple(found)


def random_systems(seed, count):
    random = Random(seed)
    while count:
        system = (TwiceMaker(random, 7) if random.random() < 0.8 else TreeMaker(random)).system()
        if is_fair(system):
            count -= 1
            yield random, system


class ImproveTests(unittest.TestCase):
    def refused(self, error, given, call, *arguments):
        with self.assertRaises(error) as caught:
            call(*arguments)
        self.assertIs(caught.exception.given, given)

    def raised(self, error, attributes, call, *arguments):
        with self.assertRaises(error) as caught:
            call(*arguments)
        self.assertEqual(vars(caught.exception), attributes)


class EndTests(ImproveTests):
    def test_against_statements(self):
        empty = dead = 0
        for random, system in random_systems(271, 150):
            for unit, _ in system[1]:
                told = can_end(system=system, unit=unit)
                self.assertEqual(told, ends_of(system, unit)[unit])
                all_new(self, told, can_end(system, unit))
                stores = stores_at(system=system, unit=unit)
                self.assertEqual(stores, stores_of(system, unit))
                self.assertTrue(all(type(one) is tuple and type(one[1]) is list for one in stores))
                all_new(self, stores, stores_at(system, unit))
                empty += [] in told
                dead += any(not one for _, one in stores)
        self.assertGreater(min(empty, dead), 15)

    def test_shares_above_zero(self):
        seen = 0
        for random, system in random_systems(272, 100):
            for unit, _ in system[1]:
                try:
                    told = summary(system, unit)
                except (TooMany, TooRich, TooGreat):
                    continue
                seen += 1
                ends = [[end for end in range(len(lots)) if any(lot[end] for lot in part)] for lots, part in zip([told] * len(told), told)]
                self.assertEqual(can_end(system, unit), ends)
        self.assertGreater(seen, 100)

    def test_never(self):
        system = read_system("name a 3 unit u { while a = 0 { choose x { } or y { } } while yes { if a = 2 { set a = 2 } else { } } } unit g { call u set a = 1 }")
        self.assertEqual(can_end(system, "u"), [[], [], []])
        self.assertEqual(can_end(system, "g"), [[], [], []])
        self.assertEqual(stores_at(system, "g"), [((0,), [0, 1, 2]), ((1,), [])])
        self.assertEqual([step[:2] for step in steps(system, "g")], [((1,), "dead")])
        system = read_system("name a 3 unit u { if a = 1 { while yes { } } else { } } unit g { call u if a = 1 { set a = 2 } else { } }")
        self.assertEqual(can_end(system, "g"), [[0], [], [2]])
        self.assertEqual(steps(system, "g"), [((1,), "told", (("call", "u"),)), ((1, 0, 0), "dead", (("call", "u"), ("if", *system[1][1][1][1][1:2], (), ())))])

    def test_no_bounds(self):
        for text in [EIGHT + LOW + "unit g { call low }", EIGHT + RICH + "unit g { call rich }", GREAT + "unit ud { call uc }", BITS + "unit g { " + THREE * 9 + "}"]:
            system = read_system(text)
            unit = system[1][-1][0]
            self.assertEqual(can_end(system, unit), ends_of(system, unit)[unit])
            self.assertEqual(steps(system, unit), own_steps(system, unit))
            self.assertTrue(is_course(system, unit, course_of(system, unit)))
            improved(system, unit)


class StepTests(ImproveTests):
    def test_against_the_words(self):
        seen = dict.fromkeys(["dead", "folded", "idle", "lost", "past", "same", "told"], 0)
        for random, system in random_systems(273, 160):
            for unit, body in system[1]:
                told = steps(system=system, unit=unit)
                self.assertEqual(told, own_steps(system, unit))
                self.assertEqual(told, sorted(told, key=lambda one: one[:2]))
                all_new(self, told, steps(system, unit))
                for step in told:
                    seen[step[1]] += 1
                    self.assertIs(is_step(system=system, unit=unit, value=step), True)
                    self.assertLess(weight(step[2]), weight(body))
                    self.assertTrue(is_fair(with_body(system, unit, step[2])))
                values = [*told, ((0,), "idle", body), ((0,), "dead", ())]
                for value in random.sample([one for step in values[:3] for one in spoiled(step, OTHERS)], 25):
                    self.assertIs(is_step(system, unit, value), strictly_in(value, told))
        self.assertGreater(min(seen.values()), 15)

    def test_each_kind(self):
        for text, expected in [
            ("set a = b - b", [((0,), "folded", "set a = 0")]), ("set a = b", []), ("set a = 5", []), ("set a = 3 + 4", [((0,), "folded", "set a = 1")]),
            ("set a = a", [((0,), "idle", "")]), ("set a = a + 3", [((0,), "idle", "")]), ("set a = 2 set a = a + 0", [((1,), "folded", "set a = 2 set a = 2"), ((1,), "idle", "set a = 2")]),
            ("set a = 2 set a = 0", [((0,), "lost", "set a = 0")]), ("set a = 2 set a = b", [((0,), "lost", "set a = b")]),
            ("set a = b set a = a + 1", []), ("set a = 2 set b = 0", []), ("set a = 2 set b = 0 set a = 1", []),
            ("draw a 0 by 1 1 by 1 set a = 0", [((0,), "lost", "set a = 0")]), ("draw a 0 by 1 1 by 1 draw a 2 by 1 1 by 1", [((0,), "lost", "draw a 2 by 1 1 by 1")]),
            ("draw a 0 by 1 1 by 1 set a = a * 2", []), ("set a = b draw a 2 by 1 1 by 1", []), ("draw a 0 by 1 1 by 1 draw b 0 by 1 1 by 1", []),
            ("while a < 0 { set b = 0 }", [((0,), "past", ""), ((0, 0, 0), "dead", "while a < 0 { }")]), ("while a < 3 { draw b 0 by 1 1 by 1 }", [((0,), "folded", "while yes { draw b 0 by 1 1 by 1 }")]),
            ("while yes { draw b 0 by 1 1 by 1 }", []), ("while not [yes] { }", [((0,), "past", "")]), ("while a = 0 { set a = 1 }", []),
            ("if a < 1 { } else { }", [((0,), "same", "")]), ("choose x { set a = 0 } or y { set a = 0 }", [((0,), "same", "set a = 0")]),
            ("choose x { set a = 0 } or y { set a = 1 }", []), ("choose x { } or y { } or z { set a = 1 }", []), ("choose x { } or y { } or z { }", [((0,), "same", "")]),
            ("if a < 3 { set a = 0 } else { set b = 1 }", [((0,), "told", "set a = 0"), ((0, 1, 0), "dead", "if a < 3 { set a = 0 } else { }")]),
            ("if 3 < a { set a = 0 } else { set b = 1 }", [((0,), "told", "set b = 1"), ((0, 0, 0), "dead", "if 3 < a { } else { set b = 1 }")]),
            ("if a < 3 { } else { }", [((0,), "same", ""), ((0,), "told", "")]), ("if a < 1 { set a = 0 } else { }", [((0, 0, 0), "folded", None)][:0] + [((0, 0, 0), "idle", "if a < 1 { } else { }")]),
            ("if a < 1 { set a = 0 set a = 1 } else { }", [((0, 0, 0), "idle", "if a < 1 { set a = 1 } else { }"), ((0, 0, 0), "lost", "if a < 1 { set a = 1 } else { }")]),
            ("while a < 2 { choose x { set a = 2 } or y { } }", []), ("while yes { } set a = 1", [((1,), "dead", "while yes { }")]),
        ]:
            names = "name a 3 name b 2 unit g { "
            system = read_system(names + text + " }")
            self.assertEqual(steps(system, "g"), [(path, kind, read_system(names + body + " }")[1][0][1]) for path, kind, body in expected], text)
            self.assertEqual(own_steps(system, "g"), steps(system, "g"))

    def test_values_of_all_kinds(self):
        system = read_system(CLUB)
        for value in any_values():
            self.assertIs(is_step(system, "turn", value), False)
            self.assertIs(is_step(system, "turn", ((0,), "dead", value)), False)
            self.assertIs(is_step(system, "turn", (value, "dead", ())), False)
        one = read_system("name a 2 unit g { set b = 1 set a = a }".replace("set b = 1", "set a = 1"))
        right = steps(one, "g")[1]
        self.assertTrue(is_step(one, "g", right))
        for value in [((True,), "idle", right[2]), ((Ratio(1),), "idle", right[2]), ((1,), None, right[2]), ([1], "idle", right[2]), list(right), (*right, 0)]:
            self.assertFalse(is_step(one, "g", value))
        self.assertEqual([step[:2] for step in steps(one, "g")], [((1,), "folded"), ((1,), "idle")])
        self.assertTrue(is_step(one, "g", ((1,), "idle", (("set", "a", ("num", 1)),))))
        self.assertFalse(is_step(one, "g", ((1,), "idle", (("set", "a", ("num", True)),))))
        self.assertFalse(is_step(one, "g", ((1,), "idle", (("set", "a", ("num", Ratio(1))),))))
        self.assertFalse(is_step(one, "g", ((1,), "idle", [("set", "a", ("num", 1))])))


def strictly_in(value, told):
    """Whether a value is one of some values, with True and Ratios other than integers."""
    return repr(value) in [repr(one) for one in told] if no_ratio(value) else False


def no_ratio(value):
    if isinstance(value, (list, tuple)):
        return all(no_ratio(one) for one in value)
    return not isinstance(value, Ratio)


class CourseTests(ImproveTests):
    def test_courses(self):
        long = 0
        for random, system in random_systems(274, 70):
            for unit, body in system[1]:
                course, now = [], system
                while own_steps(now, unit) and (not course or random.random() < 0.9):
                    course.append(random.choice(own_steps(now, unit)))
                    now = with_body(system, unit, course[-1][2])
                for value in (course, tuple(course)):
                    self.assertIs(is_course(system=system, unit=unit, value=value), True)
                if course:
                    for value in random.sample(list(spoiled(course, OTHERS)), 12):
                        self.assertIs(is_course(system, unit, value), self.own_course(system, unit, value))
                first, told = [], system
                while own_steps(told, unit):
                    first.append(own_steps(told, unit)[0])
                    told = with_body(system, unit, first[-1][2])
                self.assertEqual(course_of(system=system, unit=unit), first)
                all_new(self, course_of(system, unit), first)
                self.assertEqual(improved(system=system, unit=unit), first[-1][2] if first else body)
                self.assertTrue(is_course(system, unit, first))
                self.assertLessEqual(len(first), 40)
                long += len(first) > 3
                self.what_stays(system, unit, course)
        self.assertGreater(long, 20)

    def own_course(self, system, unit, value):
        if not isinstance(value, (list, tuple)):
            return False
        now = system
        for step in value:
            if not strictly_in(step, own_steps(now, unit)):
                return False
            now = with_body(system, unit, step[2])
        return True

    def what_stays(self, system, unit, course):
        if not course:
            return
        body, changed = dict(system[1])[unit], with_body(system, unit, course[-1][2])
        self.assertEqual(can_end(changed, unit), can_end(system, unit))
        try:
            told = {name: summary(system, name) for name, _ in system[1][:[name for name, _ in system[1]].index(unit)]}
            for store in range(len(can_end(system, unit))):
                ahead = corners_of(system, unit, store, told)
                self.assertEqual(corners_of(changed, unit, store, told), ahead)
                self.assertLessEqual(len(picks(changed, unit, store, told)), len(picks(system, unit, store, told)))
                old, new = walks_below(system, body), walks_below(system, course[-1][2])
                self.assertLessEqual(len(new.met(new.first(store))), len(old.met(old.first(store))))
            self.assertTrue(stands_for(system, unit, course[-1][2]) and stands_for(changed, unit, body))
            self.assertIsInstance(Registry(system).exchange(unit, course[-1][2]), int)
        except (TooMany, TooRich, TooGreat):
            pass

    def test_spoiled_ones(self):
        system = read_system("name a 3 unit g { set a = 1 set a = 2 set a = 2 + 0 while yes { } set a = 0 }")
        course = course_of(system, "g")
        self.assertEqual([step[:2] for step in course], [((0,), "lost"), ((0,), "lost"), ((0,), "folded"), ((2,), "dead")])
        self.assertTrue(all(is_course(system, "g", course[:many]) for many in range(5)))
        # a step of an elder body, steps in another order, a step twice
        for value in [course[1:], [course[0], course[2]], [course[0], course[0]], course[::-1], [*course, course[-1]], [list(course[0])], {"a": course},
                      [course[0], None], [None], "", None, True, {}, [[]], [()], Ratio(0)]:
            self.assertIs(is_course(system, "g", value), False)
        for value in any_values():
            self.assertIs(is_course(system, "g", value), value in ([], ()))

    def test_a_long_course(self):
        body = "set a = 0 + 1 " * 20
        system = read_system(BITS + "unit u { " + body + " } unit g { call u }")
        begun = time.perf_counter()
        course = course_of(system, "u")
        self.assertGreater(len(course), 15)
        self.assertTrue(is_course(system, "u", course))
        self.assertLess(time.perf_counter() - begun, 1.0)
        other = [self.folds_first(system)]
        self.assertEqual(len(other[0]), 39)
        begun = time.perf_counter()
        self.assertTrue(is_course(system, "u", other[0]))
        self.assertLess(time.perf_counter() - begun, 1.0)

    def folds_first(self, system):
        """A course that folds all that it can ahead of leaving out."""
        course, now = [], system
        while steps(now, "u"):
            told = sorted(steps(now, "u"), key=lambda step: (step[1] != "folded", step[0]))
            course.append(told[0])
            now = with_body(system, "u", told[0][2])
        return course


class SystemTests(ImproveTests):
    def test_improved_systems(self):
        for random, system in random_systems(275, 60):
            told = improved_system(system=system)
            self.assertEqual(told, (system[0], tuple((unit, improved(system, unit)) for unit, _ in system[1])))
            order = [unit for unit, _ in system[1]]
            random.shuffle(order)
            now = system
            for unit in order:
                now = with_body(now, unit, improved(now, unit))
            self.assertEqual(now, told)
            self.assertEqual(improved_system(told), told)

    def test_errors(self):
        system = read_system(CLUB)
        calls = [(can_end, ()), (stores_at, ()), (steps, ()), (is_step, (None,)), (course_of, ()), (is_course, ([],)), (improved, ())]
        for value in any_values():
            for call, last in calls:
                if not is_tree(value):
                    self.refused(InvalidSystem, value, call, value, None, *last)
                self.refused(InvalidUnit, value, call, system, value, *last)
            if not is_tree(value):
                self.refused(InvalidSystem, value, improved_system, value)
        unfair = read_system("name a 2 unit g { call g }")
        for call, last in calls:
            self.raised(NotFair, {"reason": "call", "unit": "g", "word": "g"}, call, unfair, None, *last)
        self.raised(NotFair, {"reason": "call", "unit": "g", "word": "g"}, improved_system, unfair)


class AlikeTests(ImproveTests):
    def test_against_corners(self):
        random, apart, together = Random(276), 0, 0
        for _ in range(80):
            registry = small_registry(random, units=random.randrange(1, 4), tries=14)
            system = registry.published()
            for unit, _ in system[1]:
                told = {name: summary(system, name) for name, _ in system[1][:[name for name, _ in system[1]].index(unit)]}
                parts = {}
                for number, body in registry.editions(unit):
                    changed = with_body(system, unit, body)
                    key = repr([corners_of(changed, unit, store, told) for store in range(registry.space.never)])
                    parts.setdefault(key, []).append(number)
                before = registry.lines()
                self.assertEqual(alike_editions(registry=registry, unit=unit), sorted(parts.values()))
                all_new(self, alike_editions(registry, unit), alike_editions(registry, unit))
                apart += len(parts) > 1
                together += max(map(len, parts.values())) > 1
                registry.stand(unit, random.randrange(len(registry.editions(unit))))
                self.assertEqual(alike_editions(registry, unit), sorted(parts.values()))
                self.assertEqual(len(before), len(registry.lines()))
        self.assertGreater(min(apart, together), 10)

    def test_twelve(self):
        registry = Registry(read_system("name a 6 unit g { choose x { } or y { set a = 0 } }"))
        for at in range(1, 8):
            registry.exchange("g", (("set", "a", ("+", ("name", "a"), ("num", 6 * at))),))
        for at in range(1, 5):
            registry.exchange("g", (("set", "a", ("*", ("num", 6), ("num", at))),))
        registry.stand("g", 4)
        self.assertEqual(alike_editions(registry, "g"), [[0], [1, 2, 3, 4, 5, 6, 7], [8, 9, 10, 11]])
        self.assertEqual(alike_editions(Registry(read_system(CLUB)), "turn"), [[0]])

    def test_errors(self):
        registry = Registry(read_system(EIGHT + LOW + RICH + "unit u { call rich } unit v { call low } unit g { call u call v } "))
        for value in [*any_values(), "hp", "Low"]:
            self.refused(InvalidUnit, value, alike_editions, registry, value)
        self.raised(TooMany, {"count": 128}, alike_editions, registry, "g")
        self.raised(TooMany, {"count": 128}, alike_editions, registry, "v")
        self.raised(TooMany, {"count": 128}, alike_editions, registry, "low")
        self.raised(TooRich, {"unit": "rich", "store": 1, "count": 7}, alike_editions, registry, "u")
        self.assertEqual(alike_editions(registry, "rich"), [[0]])
        swapped = Registry(read_system(EIGHT + RICH + LOW + "unit u { call rich } unit v { call low } unit g { call v call u } "))
        self.raised(TooRich, {"unit": "rich", "store": 1, "count": 7}, alike_editions, swapped, "g")
        great = read_system(GREAT + "unit ud { call uc }")
        self.raised(TooGreat, {"unit": "uc", "store": 1}, alike_editions, Registry(great), "ud")
        self.raised(TooGreat, {"unit": "uc", "store": 1}, alike_editions, Registry((great[0], great[1][:3])), "uc")


if __name__ == "__main__":
    unittest.main()
