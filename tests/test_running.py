import time
import unittest
from random import Random

from fairpatch.code import Code, is_code
from fairpatch.compiler import compiled, row_numbers
from fairpatch.checks import with_body
from fairpatch.errors import (
    InvalidAnswer, InvalidBody, InvalidCode, InvalidNames, InvalidRow, InvalidStore, InvalidSystem, InvalidUnit, NotFair,
)
from fairpatch.ratios import Ratio
from fairpatch.running import answered, question, settled
from fairpatch.spaces import Space
from fairpatch.texts import read_system
from tests.codes import ASKING, Machine, compiled_by_labels, random_rows
from tests.judges import all_new
from tests.samples import TreeMaker, any_values
from tests.small import SmallMaker
from tests.walks import Walk, part_at

BACK, LOOP, PUSH = ("back",), ("loop",), ("push", 1)
NAMES = (("hp", 2), ("a", 2), ("b", 2))


def asked(row):
    """What a row asks, by the words of [105]."""
    if row[0] == "draw":
        return ("turn", sum(weight for _, weight in row[2]))
    if row[0] == "choose":
        return ("choose", tuple(label for label, _ in row[1]))
    return row


class Refusing(unittest.TestCase):
    def refused(self, error, given, call, *arguments, **named):
        with self.assertRaises(error) as caught:
            call(*arguments, **named)
        self.assertIs(caught.exception.given, given)


class RunningTests(Refusing):
    def judge(self, names, rows):
        """Runs a code from everywhere with every answer, and compares it with the tests' own machine."""
        space, code, machine = Space(names), Code(rows), Machine(names, rows)
        for at in range(len(rows)):
            for store in space.stores():
                if code.heights[at] == 0:
                    told = settled(space, code, at, store)
                    self.assertEqual(told, machine.settle(at, store))
                    self.assertIs(told.__class__, tuple)
                    self.assertIn(rows[told[0]][0], ASKING)
                else:
                    self.refused(InvalidRow, at, settled, space, code, at, store)
                if rows[at][0] in ASKING:
                    self.assertEqual(question(code, at), asked(rows[at]))
                    for answer in machine.answers(at):
                        told = answered(space, code, at, store, answer)
                        self.assertEqual(told, machine.go_on(at, store, answer))
                else:
                    self.refused(InvalidRow, at, question, code, at)
                    self.refused(InvalidRow, at, answered, space, code, at, store, None)

    def test_random_rows(self):
        random = Random(81)
        codes = 0
        while codes < 150:
            rows = random_rows(random, random.choice((5, 8, 12, 18)))
            rows = [("draw", row[1], ((0, row[2][0][1]), (1, row[2][1][1]))) if row[0] == "draw" else row for row in rows]
            if is_code(rows):
                codes += 1
                self.judge(NAMES, rows)

    def test_compiled_bodies(self):
        random = Random(82)
        for _ in range(80):
            system = SmallMaker(random, 5).system()
            unit, body = random.choice(system[1])
            self.judge(system[0], list(compiled(system, unit, body).rows))

    def test_reckonings(self):
        space = Space([("n", 6)])
        below = [("push", 3), ("push", 8), ("take",)]
        above = [("push", 99), ("push", 99), ("times",)]
        zero = [("push", 0)]
        for rows, number in [
            (below, -5), (above, 9801), ([*below, *above, ("and",)], 1), ([*below, *zero, ("and",)], 0), ([*zero, *above, ("and",)], 0),
            ([*zero, *below, ("or",)], 1), ([*above, *zero, ("or",)], 1), ([*zero, *zero, ("or",)], 0), ([*below, ("not",)], 0),
            ([*above, ("not",)], 0), ([*zero, ("not",)], 1), ([*below, ("not",), ("not",)], 1), ([*below, *above, ("less",)], 1),
            ([*above, *below, ("less",)], 0), ([*below, *below, ("same",)], 1), ([*below, *below, ("less",)], 0), ([*below, *zero, ("same",)], 0),
            ([*below, *below, ("times",)], 25), ([*below, *above, ("add",)], 9796), ([*above, *below, ("take",)], 9806), ([*below, *above, ("take",)], -9806),
            ([*zero, *below, ("and",), ("not",)], 1), ([*above, *above, ("times",), *above, ("times",)], 9801 ** 3),
        ]:
            self.assertEqual(settled(space, Code([*rows, ("save", "n"), BACK]), 0, 3), (len(rows) + 1, number % 6))
            code = Code([*rows, ("unless", len(rows) + 2), LOOP, BACK])
            self.assertEqual(settled(space, code, 0, 3), (len(rows) + (2 if number == 0 else 1), 3))

    def test_wheels(self):
        space = Space([("a", 6)])
        code = Code([("draw", "a", ((4, 2), (0, 12), (5, 1))), BACK])
        self.assertEqual(question(code=code, at=0), ("turn", 15))
        self.assertEqual([answered(space, code, 0, 3, part)[1] for part in range(15)], [4] * 2 + [0] * 12 + [5])
        self.assertEqual(answered(answer=14, store=0, at=0, code=code, space=space), (1, 5))
        for value in [*any_values(), -1, 15, "0", "go", (0,), Ratio(2)]:
            if type(value) is not int or not 0 <= value < 15:
                self.refused(InvalidAnswer, value, answered, space, code, 0, 3, value)

    def test_answers(self):
        space = Space([("a", 3)])
        code = Code([LOOP, ("call", "u"), ("choose", (("x", 0), ("y", 3))), BACK])
        self.assertEqual([question(code, at) for at in range(4)], [("loop",), ("call", "u"), ("choose", ("x", "y")), ("back",)])
        self.assertEqual(answered(space, code, 0, 2, None), (1, 2))
        self.assertEqual([answered(space, code, 1, 2, store) for store in range(3)], [(2, 0), (2, 1), (2, 2)])
        self.assertEqual([answered(space, code, 2, 1, label) for label in "xy"], [(0, 1), (3, 1)])
        for value in [*any_values(), "z", "x ", ("x",), 3, -1, True, "back"]:
            if value is not None:
                self.refused(InvalidAnswer, value, answered, space, code, 0, 2, value)
            if type(value) is not int or not 0 <= value < 3:
                self.refused(InvalidAnswer, value, answered, space, code, 1, 0, value)
            self.refused(InvalidAnswer, value, answered, space, code, 2, 2, value)
            self.refused(InvalidAnswer, value, answered, space, code, 3, 2, value)
        for value in [0, "x", None]:
            self.refused(InvalidAnswer, value, answered, space, code, 3, 0, value)

    def test_words_like_those_of_rows(self):
        space = Space([("back", 2), ("loop", 3)])
        code = Code([("call", "loop"), ("call", "back"), ("choose", (("loop", 4), ("back", 3))), ("draw", "loop", ((0, 1), (2, 1))),
                     ("load", "back"), ("save", "loop"), BACK])
        self.assertEqual([question(code, at) for at in (0, 1, 2, 3, 6)],
                         [("call", "loop"), ("call", "back"), ("choose", ("loop", "back")), ("turn", 2), BACK])
        self.assertEqual(answered(space, code, 0, 0, 5), (1, 5))
        self.assertEqual(answered(space, code, 1, 0, 4), (2, 4))
        self.assertEqual([answered(space, code, 2, 5, label) for label in ("loop", "back")], [(6, 4), (3, 5)])
        for at in (0, 1, 3):
            self.refused(InvalidAnswer, None, answered, space, code, at, 0, None)

    def test_errors_in_order(self):
        space = Space([("a", 2), ("hp", 3)])
        code = Code([("draw", "hp", ((0, 1), (2, 1))), ("load", "a"), ("save", "a"), BACK])
        loud = Code([("load", "z"), ("save", "z"), LOOP, BACK])
        large = Code([("draw", "a", ((0, 1), (2, 1))), BACK])
        larger = Code([("draw", "hp", ((0, 1), (3, 1))), BACK])
        six = Code([("draw", "hp", ((0, 1), (1, 1))), ("draw", "hp", ((5, 1), (4, 1))), BACK])
        falling = Code([("draw", "hp", ((0, 1), (5, 1))), ("draw", "hp", ((1, 1), (0, 1))), ("load", "hp"), ("save", "hp"), BACK])
        saving = Code([PUSH, ("save", "b"), BACK])
        drawing = Code([("draw", "z", ((0, 1), (1, 1))), BACK])
        for call in (lambda *told: settled(*told), lambda *told: answered(*told, "none")):
            for value in [*any_values(), [("a", 2)], code, "a", Space]:
                if not isinstance(value, Space):
                    self.refused(InvalidNames, value, call, value, None, None, None)
            for value in [*any_values(), code.rows, list(code.rows), loud, large, larger, six, falling, saving, drawing]:
                self.refused(InvalidCode, value, call, space, value, None, None)
            for at in [*any_values(), -1, 4, 99, "0", 2, Ratio(0), (0,)]:
                if at != 0 and at != 1 or isinstance(at, (bool, Ratio)):
                    self.refused(InvalidRow, at, call, space, code, at, None)
            for store in [None, True, -1, 6, "0", Ratio(1), (0,), [0]]:
                self.refused(InvalidStore, store, call, space, code, 0, store)
        self.refused(InvalidRow, 1, answered, space, code, 1, None, None)
        self.assertEqual(settled(space, code, 1, 5), (3, 5))
        self.refused(InvalidRow, 2, settled, space, code, 2, None)
        self.assertEqual(settled(Space([("z", 2)]), loud, 0, 1), (2, 1))
        self.assertEqual(settled(Space([("hp", 6)]), six, 0, 1), (0, 1))
        for value in [*any_values(), code.rows, [BACK]]:
            self.refused(InvalidCode, value, question, value, None)
        for other in (loud, large, larger, six, falling, saving, drawing):
            self.assertEqual(question(other, len(other.rows) - 1), ("back",))
        for at in [None, True, False, -1, 4, 1, 2, "0", Ratio(0)]:
            self.refused(InvalidRow, at, question, code, at)
        words = ["a" * count for count in range(1, 9)]
        many = Code([row for word in words for row in (PUSH, ("save", word))] + [BACK])
        self.refused(InvalidCode, many, settled, Space([("a", 2), ("aa", 2), ("aaa", 2)]), many, 0, 0)

    def test_speed(self):
        space = Space([("a", 2)])
        long = Code([LOOP, PUSH, ("unless", 0)] + [LOOP] * 1390 + [BACK])
        begun = time.time()
        for _ in range(300):
            settled(space, long, 1, 0)
            answered(space, long, 0, 0, None)
            question(long, 0)
        self.assertLess(time.time() - begun, 0.15)


class CompilerTests(Refusing):
    def test_against_labels(self):
        random = Random(84)
        bodies = {}
        for index in range(150):
            system = TreeMaker(random).system() if index % 2 else SmallMaker(random, 6).system()
            for unit, body in system[1]:
                rows, numbers = compiled_by_labels(body)
                code = compiled(system=system, unit=unit, body=body)
                self.assertIs(code.__class__, Code)
                self.assertEqual(list(code.rows), rows)
                self.assertEqual(row_numbers(unit=unit, system=system, body=body), numbers)
                self.assertEqual(numbers, sorted(numbers))
                all_new(self, row_numbers(system, unit, body), numbers)
                # equal codes just of equal bodies
                self.assertEqual(bodies.setdefault(code.rows, body), body)
        self.assertGreater(len(bodies), 250)

    def test_exact_rows(self):
        names = "name a 3 name b 2 unit u { } unit g { "
        for text, rows, numbers in [
            ("", [], []),
            ("set a = 5", [("push", 5), ("save", "a")], []),
            ("set a = (b - 1) * (2 + a)", [("load", "b"), PUSH, ("take",), ("push", 2), ("load", "a"), ("add",), ("times",), ("save", "a")], []),
            ("call u draw b 0 by 1 1 by 2", [("call", "u"), ("draw", "b", ((0, 1), (1, 2)))], [((0,), 0), ((1,), 1)]),
            ("choose x { } or y { }", [("choose", (("x", 1), ("y", 2))), ("go", 2)], [((0,), 0)]),
            ("choose x { call u } or y { }", [("choose", (("x", 1), ("y", 3))), ("call", "u"), ("go", 3)], [((0,), 0), ((0, 0, 0), 1)]),
            ("choose x { } or y { call u } call u", [("choose", (("x", 1), ("y", 2))), ("go", 3), ("call", "u"), ("call", "u")],
             [((0,), 0), ((0, 1, 0), 2), ((1,), 3)]),
            ("choose x { } or y { } or z { }", [("choose", (("x", 1), ("y", 2), ("z", 3))), ("go", 3), ("go", 3)], [((0,), 0)]),
            ("choose x { call u } or y { call u } or z { call u }",
             [("choose", (("x", 1), ("y", 3), ("z", 5))), ("call", "u"), ("go", 6), ("call", "u"), ("go", 6), ("call", "u")],
             [((0,), 0), ((0, 0, 0), 1), ((0, 1, 0), 3), ((0, 2, 0), 5)]),
            ("if yes { } else { }", [PUSH, ("unless", 3), ("go", 3)], []),
            ("if yes { call u } else { set a = 1 } call u",
             [PUSH, ("unless", 4), ("call", "u"), ("go", 6), PUSH, ("save", "a"), ("call", "u")], [((0, 0, 0), 2), ((1,), 6)]),
            ("while not [a < b] { }", [("load", "a"), ("load", "b"), ("less",), ("not",), ("unless", 7), LOOP, ("go", 0)], [((0,), 5)]),
            ("call u while [a = 1] or [yes] { while yes { call u } }",
             [("call", "u"), ("load", "a"), PUSH, ("same",), PUSH, ("or",), ("unless", 14), LOOP, PUSH, ("unless", 13), LOOP, ("call", "u"),
              ("go", 8), ("go", 1)], [((0,), 0), ((1,), 7), ((1, 0, 0), 10), ((1, 0, 0, 0, 0), 11)]),
            ("if [yes] and [yes] { while yes { } } else { choose x { } or y { } }",
             [PUSH, PUSH, ("and",), ("unless", 9), PUSH, ("unless", 8), LOOP, ("go", 4), ("go", 11), ("choose", (("x", 10), ("y", 11))), ("go", 11)],
             [((0, 0, 0), 6), ((0, 1, 0), 9)]),
        ]:
            system = read_system(names + text + " }")
            body = system[1][1][1]
            self.assertEqual(compiled(system, "g", body).rows, (*rows, BACK))
            self.assertEqual(row_numbers(system, "g", body), numbers)
            self.assertEqual(compiled(read_system(names + "}"), "g", body).rows, (*rows, BACK))

    def test_longest_bodies(self):
        def full(depth, kinds, leaf):
            return leaf if depth == 1 else (kinds[0], full(depth - 1, kinds[1:], leaf), full(depth - 1, kinds[1:], leaf))

        expression = full(6, "+-*+-", ("num", 99))
        condition = full(6, ("and", "or", "and", "less", "-"), ("name", "a"))
        system = ((("a", 3),), (("g", ()),))
        loops = (("while", condition, (("while", condition, (("while", condition, (("set", "a", expression),)),)),)),)
        for body in [(("set", "a", expression),) * 20, (("while", condition, ()),) * 20, (("if", condition, (), ()),) * 20, loops * 5]:
            code = compiled(system, "g", body)
            self.assertEqual(list(code.rows), compiled_by_labels(body)[0])
            self.assertLessEqual(len(code.rows), 1400)
        self.assertEqual(len(compiled(system, "g", (("while", condition, ()),) * 20).rows), 20 * 66 + 1)

    def test_step_by_step(self):
        """[107]: the code goes on from each row with each answer as the text does."""
        random = Random(85)
        for _ in range(100):
            system = SmallMaker(random, 6).system()
            unit, body = random.choice(system[1])
            walk, space, code = Walk(system[0], body), Space(system[0]), compiled(system, unit, body)
            numbers = dict(row_numbers(system, unit, body))
            self.assertEqual(set(numbers), {path for path, _ in walk.all_rows()} | {
                path for path in numbers if part_at(body, path)[0] == "while"})

            def belongs(place):
                return (numbers[place[0]], place[1]) if isinstance(place, tuple) else (len(code.rows) - 1, place)

            for store in space.stores():
                self.assertEqual(settled(space, code, 0, store), belongs(walk.first(store)))
            for path, store in walk.all_rows():
                statement, at = part_at(body, path), numbers[path]
                if statement[0] == "while":
                    self.assertEqual(answered(space, code, at, store, None), belongs(walk.place(walk.inside(path, 0), store)))
                elif statement[0] == "choose":
                    for index, (label, _) in enumerate(statement[1]):
                        self.assertEqual(answered(space, code, at, store, label), belongs(walk.place(walk.inside(path, index), store)))
                elif statement[0] == "call":
                    for end in space.stores():
                        self.assertEqual(answered(space, code, at, store, end), belongs(walk.behind(path, end)))
                else:
                    values = [value for value, weight in statement[2] for _ in range(weight)]
                    for part, value in enumerate(values):
                        self.assertEqual(answered(space, code, at, store, part),
                                         belongs(walk.behind(path, walk.given(store, statement[1], value))))

    def test_errors(self):
        system = read_system("name a 2 unit u { } unit g { call u }")
        for call in (compiled, row_numbers):
            self.refused(InvalidSystem, (), call, (), None, None)
            for value in [None, "x", 1, ["g"]]:
                self.refused(InvalidUnit, value, call, system, value, None)
            for value in [*any_values(), (("set", "a", ("num", True)),), (("call", "u"),) * 21, [("call", "u")]]:
                if value != ():
                    self.refused(InvalidBody, value, call, system, "g", value)
            for unit, body, told in [("u", (("call", "u"),), ("call", "u", "u")), ("g", (("set", "b", ("num", 1)),), ("name", "g", "b"))]:
                with self.assertRaises(NotFair) as caught:
                    call(system, unit, body)
                error = caught.exception
                self.assertEqual((error.reason, error.unit, error.word), told)
        for body in [(), (("call", "u"),), (("draw", "a", ((0, 1), (1, 1))),)]:
            self.assertTrue(compiled(system, "g", body) == compiled(with_body(system, "g", body), "g", body))


if __name__ == "__main__":
    unittest.main()
