import unittest
from random import Random
from time import perf_counter

from fairpatch.checks import (
    body_of, calls_of, check_system, is_fair, space_of, statements, unit_names, with_body,
)
from fairpatch.compiler import compiled, row_numbers
from fairpatch.errors import InvalidBody, InvalidSystem, InvalidUnit, NotFair
from fairpatch.machine import Shelf
from fairpatch.ratios import Ratio
from fairpatch.registry import Registry
from fairpatch.spaces import Space
from fairpatch.texts import is_tree, read_system
from tests.samples import TreeMaker, any_values, nested

NAMES = (("hp", 3), ("gold", 2))
ONE = ("num", 1)
ROLL = ("roll", (("draw", "hp", ((0, 1), (2, 3))),))
CALL = ("call", "roll")


def system_of(*bodies):
    return (NAMES, (*[(unit, body) for unit, body in zip(("roll", "turn", "game"), bodies)],))


def called(unit):
    return (("call", unit),)


class CheckTests(unittest.TestCase):
    def unfair(self, system, reason, unit, word):
        """A system in which just this is wrong first."""
        self.assertIs(is_fair(system), False)
        for call in (check_system, space_of, unit_names, lambda one: body_of(one, "roll"),
                     lambda one: statements(one, None), lambda one: calls_of(one, "wrong"),
                     lambda one: with_body(one, "wrong", None)):
            with self.assertRaises(NotFair) as caught:
                call(system)
            error = caught.exception
            self.assertEqual((error.reason, error.unit, error.word), (reason, unit, word))

    def test_fair(self):
        random = Random(19)
        for system in [system_of(ROLL[1], (CALL,), ()), *[TreeMaker(random).system() for _ in range(50)]]:
            self.assertIsNone(check_system(system=system))
            self.assertIs(is_fair(value=system), True)

    def test_no_systems(self):
        list_of_units = (NAMES, [("roll", ())])
        for value in [*any_values(), list_of_units, system_of((None,)), system_of((CALL,) * 21), ((("hp", 3),) * 2, ())]:
            self.assertIs(is_fair(value), False)
            for call in (check_system, space_of, unit_names, lambda one: body_of(one, "roll"),
                         lambda one: statements(one, None), lambda one: calls_of(one, "wrong"),
                         lambda one: with_body(one, "wrong", None)):
                with self.assertRaises(InvalidSystem) as caught:
                    call(value)
                self.assertIs(caught.exception.given, value)

    def test_twice(self):
        none = ((),)
        for names, units, word in [
            ("aa", "b", "a"), ("aba", "c", "a"), ("abb", "c", "b"), ("ab", "a", "a"), ("ab", "cb", "b"), ("a", "bb", "b"),
            ("a", "bcbc", "b"), ("ab", "ccba", "c"), ("aabb", "c", None), ("abc", "dec", "c"),
        ]:
            system = (tuple((name, 6) for name in names), tuple((unit, ()) for unit in units))
            if word is None:
                self.assertFalse(is_tree(system))
            else:
                self.unfair(system, "twice", None, word)
        self.unfair(((("a", 6), ("b", 6)), (("c", (("set", "z", ONE),)), ("c", none[0]))), "twice", None, "c")

    def test_stores(self):
        for sizes, word in [
            ((3, 3), "b"), ((2, 5), "b"), ((2, 2, 3), "c"), ((6, 2), "b"), ((6, 6, 6), "b"), ((2, 4, 2), "c"), ((4, 3, 2), "b"),
        ]:
            names = tuple(zip("abc", sizes))
            self.unfair((names, (("u", (("call", "u"),)),)), "stores", None, word)
        for sizes in [(6,), (2, 2), (2, 3), (4, 2), (2, 4), (2, 2, 2)]:
            self.assertIs(is_fair((tuple(zip("abc", sizes)), (("u", ()),))), True)

    def test_names(self):
        name = lambda word: ("name", word)
        for statement, word in [
            (("set", "a", ONE), "a"), (("set", "a", name("b")), "a"), (("set", "hp", name("b")), "b"),
            (("set", "hp", ("+", name("x"), name("b"))), "x"), (("set", "hp", ("+", name("hp"), name("roll"))), "roll"),
            (("set", "hp", ("+", ("*", ONE, ("-", name("d"), name("c"))), name("b"))), "d"),
            (("draw", "a", ((0, 1), (0, 1))), "a"), (("draw", "roll", ((0, 1), (1, 1))), "roll"),
            (("if", ("less", name("b"), name("a")), (), ()), "b"), (("while", ("same", ONE, name("a")), ()), "a"),
            (("if", ("and", ("not", ("same", ONE, name("z"))), ("less", name("a"), ONE)), (), ()), "z"),
            (("if", ("or", ("yes",), ("less", name("a"), ONE)), (("set", "b", ONE),), ()), "a"),
            (("if", ("less", name("a"), ONE), (("call", "none"),), ()), "a"),
        ]:
            self.unfair(system_of((statement,)), "name", "roll", word)
            self.unfair(system_of((), (("while", ("yes",), (CALL, statement)),)), "name", "turn", word)

    def test_values(self):
        for name, values in [
            ("hp", (0, 0)), ("hp", (0, 3)), ("hp", (3, 0)), ("gold", (0, 2)), ("gold", (1, 1)), ("hp", (0, 1, 0)),
            ("hp", (0, 1, 5)), ("gold", (0, 1, 2)), ("hp", (2, 1, 1)),
        ]:
            draw = ("draw", name, tuple((value, 1) for value in values))
            self.unfair(system_of((draw,)), "value", "roll", name)
        for name, values in [("hp", (0, 2)), ("hp", (2, 1, 0)), ("gold", (1, 0))]:
            self.assertIs(is_fair(system_of((("draw", name, tuple((value, 1) for value in values)),))), True)

    def test_labels(self):
        for labels, word in [("aa", "a"), ("aba", "a"), ("abb", "b"), ("aab", "a"), ("aaa", "a")]:
            choose = ("choose", tuple((label, (("set", "z", ONE),)) for label in labels))
            self.unfair(system_of((choose,)), "label", "roll", word)
        inner = ("choose", (("hp", ()), ("roll", ())))
        outer = ("choose", (("hp", (inner, inner)), ("roll", ()), ("gold", (inner,))))
        self.assertIs(is_fair(system_of((outer, outer), (outer,))), True)

    def test_calls(self):
        for bodies, unit, word in [
            ((called("roll"),), "roll", "roll"), ((called("turn"), ()), "roll", "turn"), ((called("none"),), "roll", "none"),
            (((), called("turn")), "turn", "turn"), (((), (CALL,), called("hp")), "game", "hp"),
            (((), called("game"), ()), "turn", "game"), (((), (CALL, *called("turn"))), "turn", "turn"),
        ]:
            self.unfair(system_of(*bodies), "call", unit, word)
        self.assertIs(is_fair(system_of((), (CALL,), (CALL, *called("turn"), CALL))), True)

    def test_the_first_of_many(self):
        wrong = [("set", "x", ONE), ("draw", "hp", ((0, 1), (0, 1))), ("choose", (("a", ()), ("a", ()))), ("call", "none")]
        told = [("name", "x"), ("value", "hp"), ("label", "a"), ("call", "none")]
        for at, statement in enumerate(wrong):
            for other in wrong[:at] + wrong[at + 1:]:
                self.unfair(system_of((statement, other), (other,)), told[at][0], "roll", told[at][1])
                self.unfair(system_of((("if", ("yes",), (), (statement,)), other)), told[at][0], "roll", told[at][1])
                self.unfair(system_of((), (("choose", (("b", ()), ("a", (statement,)))),), (other,)),
                            told[at][0], "turn", told[at][1])
        held = ("while", ("less", ("name", "y"), ONE), (wrong[0],))
        self.unfair(system_of((held,)), "name", "roll", "y")
        label_first = ("choose", (("a", (wrong[0],)), ("a", ())))
        self.unfair(system_of((label_first,)), "label", "roll", "a")


class PartTests(unittest.TestCase):
    def setUp(self):
        self.inner = ("if", ("yes",), (CALL,), (("set", "hp", ONE), CALL))
        self.system = (NAMES, (
            ROLL, ("turn", (CALL, ("choose", (("go", ()), ("stay", (self.inner,)))), CALL)),
            ("game", (("while", ("yes",), (("call", "turn"), ("call", "roll"))), CALL)),
        ))

    def test_parts(self):
        self.assertEqual(space_of(system=self.system), Space(NAMES))
        self.assertEqual(unit_names(self.system), ["roll", "turn", "game"])
        self.assertEqual(body_of(self.system, "roll"), ROLL[1])
        self.assertEqual(body_of(unit="game", system=self.system), self.system[1][2][1])
        self.assertEqual(calls_of(self.system, "roll"), [])
        self.assertEqual(calls_of(self.system, "turn"), ["roll"])
        self.assertEqual(calls_of(unit="game", system=self.system), ["roll", "turn"])

    def test_statements(self):
        choose = self.system[1][1][1][1]
        self.assertEqual(statements(self.system, "turn"), [
            ((0,), CALL), ((1,), choose), ((1, 1, 0), self.inner), ((1, 1, 0, 0, 0), CALL),
            ((1, 1, 0, 1, 0), ("set", "hp", ONE)), ((1, 1, 0, 1, 1), CALL), ((2,), CALL),
        ])
        self.assertEqual([path for path, _ in statements(unit="game", system=self.system)],
                         [(0,), (0, 0, 0), (0, 0, 1), (1,)])

    def test_statements_by_their_paths(self):
        random = Random(20)
        for _ in range(60):
            system = TreeMaker(random).system()
            for unit, body in system[1]:
                found = statements(system, unit)
                paths = [path for path, _ in found]
                self.assertEqual(paths, sorted(set(paths)))
                self.assertEqual(len(paths), count(body))
                for path, statement in found:
                    self.assertEqual(at_path(body, path), statement)
                calls = {statement[1] for _, statement in found if statement[0] == "call"}
                self.assertEqual(calls_of(system, unit), [name for name, _ in system[1] if name in calls])

    def test_new_lists(self):
        for call in (unit_names, lambda system: calls_of(system, "game"), lambda system: statements(system, "game")):
            told = call(self.system)
            call(self.system).clear()
            self.assertEqual(call(self.system), told)

    def test_wrong_units(self):
        for unit in [*any_values(), "hp", "ROLL", "rol", ["roll"], ("roll",), "gold"]:
            for call in (body_of, statements, calls_of, lambda system, one: with_body(system, one, None),
                         lambda system, one: with_body(system, one, ())):
                with self.assertRaises(InvalidUnit) as caught:
                    call(self.system, unit)
                self.assertIs(caught.exception.given, unit)


class WithBodyTests(unittest.TestCase):
    def refused(self, system, unit, body):
        with self.assertRaises(InvalidBody) as caught:
            with_body(system, unit, body)
        self.assertIs(caught.exception.given, body)

    def test_all_else_stays(self):
        system = system_of(ROLL[1], (CALL,), (CALL, ("call", "turn")))
        for unit, body in [("roll", ()), ("turn", ROLL[1]), ("game", (CALL,) * 20)]:
            changed = with_body(system, unit, body)
            self.assertEqual(changed[0], NAMES)
            self.assertEqual(dict(changed[1]), {**dict(system[1]), unit: body})
            self.assertEqual(unit_names(changed), unit_names(system))
            self.assertEqual(with_body(body=body, unit=unit, system=system), changed)
        self.assertEqual(with_body(system, "roll", ROLL[1]), system)

    def test_no_bodies(self):
        system = system_of(ROLL[1], (CALL,))
        for body in [
            *[value for value in any_values() if value != ()], [CALL], (list(CALL),), (("call", "B"),), (CALL,) * 21,
            CALL, (("while", ("yes",), [CALL]),), (Ratio(1),), nested(87, lambda value: (value,)),
            nested(29, lambda value: (("if", ("yes",), (), value),)),
        ]:
            self.refused(system, "roll", body)
            self.refused(system, "turn", body)

    def test_sixty_statements(self):
        system = system_of((), (CALL,) * 20, (CALL,) * 20)
        more = (NAMES, (*system[1], ("last", (CALL,))))
        full = (("set", "hp", ONE),) * 20
        self.assertEqual(body_of(with_body(system, "roll", full), "roll"), full)
        self.refused(more, "roll", full)
        self.assertEqual(body_of(with_body(more, "roll", full[1:]), "roll"), full[1:])

    def test_not_fair(self):
        system = system_of(ROLL[1], (CALL,), (CALL,))
        for unit, body, reason, word in [
            ("roll", called("roll"), "call", "roll"), ("roll", called("game"), "call", "game"),
            ("turn", called("turn"), "call", "turn"), ("game", (("set", "x", ONE),), "name", "x"),
            ("turn", (("draw", "gold", ((0, 1), (2, 1))),), "value", "gold"),
            ("turn", (("choose", (("a", ()), ("a", ()))),), "label", "a"),
        ]:
            for old in [(), (CALL,) if unit != "roll" else ROLL[1]]:
                with self.assertRaises(NotFair) as caught:
                    with_body(with_body(system, unit, old), unit, body)
                error = caught.exception
                self.assertEqual((error.reason, error.unit, error.word), (reason, unit, word))

    def test_against_the_whole_system(self):
        """What is refused for one body is what check_system says of the whole system with it."""
        random, seen = Random(22), {"fair": 0, "body": 0, "unfair": 0}
        while min(seen.values()) < 60:
            system, other = TreeMaker(random).system(), TreeMaker(random).system()
            unit, body = random.choice(unit_names(system)), random.choice(other[1])[1]
            if random.random() < 0.5:
                body = random.choice(system[1])[1] + body
            changed = (system[0], tuple((name, body if name == unit else old) for name, old in system[1]))
            try:
                check_system(changed)
            except InvalidSystem:
                self.refused(system, unit, body)
                seen["body"] += 1
            except NotFair as error:
                with self.assertRaises(NotFair) as caught:
                    with_body(system, unit, body)
                self.assertEqual(vars(caught.exception), vars(error))
                self.assertEqual(error.unit, unit)
                seen["unfair"] += 1
            else:
                self.assertEqual(with_body(system, unit, body), changed)
                seen["fair"] += 1

    def test_calls_stand_ahead(self):
        random = Random(21)
        for _ in range(40):
            system = TreeMaker(random).system()
            names = unit_names(system)
            for unit in names:
                self.assertTrue(all(names.index(called) < names.index(unit) for called in calls_of(system, unit)))

    def test_texts(self):
        with self.assertRaises(NotFair) as caught:
            check_system(read_system("name a 2 unit b { set c = d }"))
        self.assertEqual(caught.exception.word, "c")


NAME = "abcdefgh"
FIFTEEN = tuple(("set", NAME, ("num", number)) for number in range(15))
SIXTY = (((NAME, 4),), tuple((unit, FIFTEEN) for unit in ("pabcdefg", "qabcdefg", "rabcdefg", "sabcdefg")))


def shortest(call, runs=40):
    """The shortest of some runs, in seconds."""
    found = []
    for _ in range(runs):
        begun = perf_counter()
        call()
        found.append(perf_counter() - begun)
    return min(found)


def share(call, runs=40):
    """How long a call takes by the time of a check of the whole system: the least of a few tries, as other work disturbs them."""
    return min(shortest(call, runs) / shortest(lambda: check_system(SIXTY)) for _ in range(5))


class SpeedTests(unittest.TestCase):
    """Nothing is judged again that has been judged: the best of several runs, loosely compared."""

    def test_bodies(self):
        for many in (1, 12, 15):
            body = tuple(("set", NAME, ("num", 99 - number)) for number in range(many))
            self.assertLess(share(lambda: with_body(SIXTY, "qabcdefg", body)), 1.5)
            self.assertLess(share(lambda: row_numbers(SIXTY, "qabcdefg", body)), 1.8)
            self.assertLess(share(lambda: compiled(SIXTY, "qabcdefg", body)), 2.2)

    def test_exchanges(self):
        for shelf in (Shelf(SIXTY), Registry(SIXTY)):
            body = tuple(("set", NAME, ("num", number)) for number in range(3, 15))
            shelf.exchange("qabcdefg", body)
            self.assertLess(share(lambda: shelf.exchange("qabcdefg", body)), 0.5)
            self.assertLess(share(lambda: shelf.exchange("rabcdefg", FIFTEEN)), 0.5)

    def test_fresh_bodies(self):
        fresh = []
        for at in range(20):
            shelf = Shelf(SIXTY)
            for number in range(11):
                body = tuple(("set", NAME, ("num", 11 * (at % 9) + number)) for _ in range(12))
                fresh.append(shortest(lambda: shelf.exchange("qabcdefg", body), 1))
        self.assertLess(min(fresh), 0.5 * shortest(lambda: check_system(SIXTY)))


def bodies(statement):
    if statement[0] == "choose":
        return [body for _, body in statement[1]]
    return {"if": statement[2:], "while": statement[2:]}.get(statement[0], ())


def count(body):
    return sum(1 + sum(count(inner) for inner in bodies(statement)) for statement in body)


def at_path(body, path):
    statement = body[path[0]]
    if len(path) == 1:
        return statement
    return at_path(bodies(statement)[path[1]], path[2:])


if __name__ == "__main__":
    unittest.main()
