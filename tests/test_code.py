import time
import unittest
from random import Random

from fairpatch.code import Code, is_code, lines_of, read_code
from fairpatch.compiler import compiled
from fairpatch.errors import InvalidCode, InvalidLines
from fairpatch.ratios import Ratio
from tests.codes import heights_and_ranks, random_rows
from tests.judges import all_new
from tests.samples import TreeMaker, any_values
from tests.small import SmallMaker, spoiled

BACK = ("back",)
LOOP = ("loop",)
PUSH = ("push", 1)
SAVE = ("save", "a")


def chain(many):
    """So many rows, one behind the other, that nothing but the last one asks."""
    return [PUSH, SAVE] * ((many - 1) // 2) + [("go", many - 1)] * ((many - 1) % 2) + [BACK]


class CodeTests(unittest.TestCase):
    def judge(self, rows):
        """Compares is_code and Code with the tests' own judge; returns whether it is a code."""
        expected = heights_and_ranks(rows)
        self.assertIs(is_code(rows), expected is not None, rows)
        if expected is None:
            with self.assertRaises(InvalidCode) as caught:
                Code(rows)
            self.assertIs(caught.exception.given, rows)
            return False
        kept = list(rows)
        code = Code(rows=rows)
        self.assertEqual(list(rows), kept)
        self.assertEqual((code.heights, code.ranks), expected)
        self.assertEqual(code.rows, tuple(rows))
        self.assertEqual({part.__class__ for part in (code.rows, code.heights, code.ranks)}, {tuple})
        return True

    def good(self, *codes):
        for rows in codes:
            self.assertTrue(self.judge(rows), rows)
            self.assertTrue(self.judge(tuple(rows)))

    def bad(self, *codes):
        for rows in codes:
            self.assertFalse(self.judge(rows), rows)

    def test_random_rows(self):
        random = Random(71)
        codes = 0
        for _ in range(6000):
            codes += self.judge(random_rows(random, random.choice((1, 2, 3, 4, 5, 8, 14))))
        self.assertGreater(codes, 400)

    def test_spoiled_codes(self):
        random = Random(72)
        codes, others = 0, [None, True, False, 0, 1, -1, 99, 100, "a", "set", BACK, LOOP, [LOOP], PUSH, ("go", 0), ("add",), (), []]
        for _ in range(40):
            system = SmallMaker(random, 5).system()
            unit, body = random.choice(system[1])
            rows = list(compiled(system, unit, body).rows)
            self.assertTrue(self.judge(rows))
            told = list(spoiled(rows, others))
            for other in random.sample(told, min(150, len(told))):
                codes += self.judge(other)
            for _ in range(20):
                at, to = random.randrange(len(rows)), random.randrange(len(rows))
                changed = list(rows)
                if rows[at][0] in ("go", "unless"):
                    changed[at] = (rows[at][0], to)
                else:
                    changed[at], changed[to] = changed[to], changed[at]
                codes += self.judge(changed)
        self.assertGreater(codes, 100)

    def test_rings(self):
        self.good([BACK], [LOOP, BACK])
        self.bad([("go", 0), BACK], [("go", 1), ("go", 0), BACK], [LOOP, ("go", 0), BACK])
        self.good([PUSH, ("unless", 4), LOOP, ("go", 0), BACK], [("choose", (("x", 0), ("y", 1))), BACK])
        self.bad([PUSH, ("unless", 3), ("go", 0), BACK], [LOOP, PUSH, ("unless", 1), BACK], [PUSH, ("unless", 0), BACK])
        self.good([LOOP, PUSH, ("unless", 0), BACK], [("draw", "a", ((0, 1), (1, 1))), PUSH, ("unless", 0), BACK])
        self.good([("call", "u"), PUSH, ("unless", 0), BACK])
        self.bad([PUSH, ("unless", 5), LOOP, PUSH, ("unless", 3), BACK])

    def test_heights(self):
        self.good([PUSH, ("unless", 3), ("go", 3), BACK], [PUSH, ("unless", 4), PUSH, SAVE, BACK])
        self.bad([PUSH, ("unless", 3), PUSH, BACK], [PUSH, ("unless", 3), PUSH, SAVE, BACK], [PUSH, BACK], [SAVE, BACK])
        self.bad([PUSH, LOOP, SAVE, BACK], [PUSH, ("add",), SAVE, BACK], [("not",), SAVE, BACK], [("unless", 1), BACK])
        self.bad([PUSH, PUSH, SAVE, BACK], [PUSH, ("choose", (("x", 2), ("y", 2))), SAVE, BACK], [PUSH, PUSH, ("unless", 3), BACK])
        self.good([PUSH, PUSH, PUSH, ("unless", 5), ("go", 5), ("add",), SAVE, BACK], [PUSH, ("not",), ("not",), SAVE, BACK])
        self.bad([PUSH, PUSH, PUSH, ("unless", 6), ("add",), ("go", 6), SAVE, BACK])
        for kind in ("add", "take", "times", "less", "same", "and", "or"):
            self.good([PUSH, ("load", "b"), (kind,), SAVE, BACK])
            self.bad([PUSH, (kind,), SAVE, BACK], [PUSH, PUSH, PUSH, (kind,), SAVE, BACK], [(kind,), BACK])
        for deep in (2, 7, 20, 21, 300):
            self.good([PUSH] * deep + [("add",)] * (deep - 1) + [SAVE, BACK])
            self.bad([PUSH] * deep + [("add",)] * deep + [SAVE, BACK], [PUSH] * deep + [("add",)] * (deep - 2) + [SAVE, BACK])
        self.assertEqual(Code([PUSH] * 20 + [("times",)] * 19 + [SAVE, BACK]).heights, (*range(20), *range(20, 0, -1), 0))

    def test_rows_that_are_not_met(self):
        self.bad([("go", 2), LOOP, BACK], [("go", 2), PUSH, BACK], [LOOP, ("go", 3), LOOP, BACK])
        self.bad([("choose", (("x", 2), ("y", 2))), LOOP, BACK], [("choose", (("x", 2), ("y", 0))), LOOP, BACK])
        self.good([("choose", (("x", 2), ("y", 1))), LOOP, BACK], [("choose", (("x", 1), ("y", 1), ("z", 1))), BACK])
        self.bad([LOOP, BACK, BACK], [BACK, LOOP], [LOOP], [], (), [LOOP, LOOP], [BACK, LOOP, BACK], [PUSH, ("unless", 2), BACK, BACK])

    def test_numbers_and_words(self):
        for at in (-1, 3, 4, 99, True, False, None, "0", Ratio(2), (2,)):
            self.bad([("go", at), LOOP, BACK], [PUSH, ("unless", at), BACK], [("choose", (("x", at), ("y", 1))), LOOP, BACK])
        for number in (0, 99):
            self.good([("push", number), SAVE, BACK])
        for number in (-1, 100, True, False, Ratio(1), "1", None, (1,), 10 ** 60):
            self.bad([("push", number), SAVE, BACK])
        for word in ("set", "by", "A", "a1", "", "abcdefghi", None, 1, ("a",)):
            self.bad([PUSH, ("save", word), BACK], [("load", word), SAVE, BACK], [("call", word), BACK],
                     [("draw", word, ((0, 1), (1, 1))), BACK], [("choose", ((word, 1), ("y", 1))), BACK])
        for pairs in [((0, 1), (0, 2)), ((0, 1),), ((0, 1),) * 2, ((0, 0), (1, 1)), ((0, 13), (1, 1)), ((6, 1), (1, 1)), ((0, 1), [1, 1]),
                      [(0, 1), (1, 1)], ((0, 1), (1, 1), (2, 1), (3, 1)), ((False, 1), (1, 1)), ((0, True), (1, 1)), ((0, 1, 1), (1, 1))]:
            self.bad([("draw", "a", pairs), BACK])
        for pairs in [(("x", 1), ("x", 1)), (("x", 1),), (("x", 1), ["y", 1]), [("x", 1), ("y", 1)], (("x", 1), ("y", 1), ("x", 0)),
                      (("x", 1), ("y", 1), ("z", 1), ("w", 1)), (("x", 1), ("y",)), (("x", 1), (1, "y"))]:
            self.bad([("choose", pairs), BACK])
        for word in ("back", "loop", "push", "turn", "go"):
            self.good([("call", word), ("load", word), ("save", word), ("choose", ((word, 4), ("y", 4))), BACK],
                      [("draw", word, ((0, 1), (1, 1))), BACK])
        self.good([("draw", "a", ((5, 12), (0, 1), (3, 7))), BACK], [("call", "anyone"), BACK], [("choose", (("x", 1), ("y", 1))), BACK])
        for row in [("push", 1, 1), ("load", "a", "a"), ("save", "a", "a", "a"), ("push", 1, 1, 1), ("go", 1, 1, 1), ("unless", 1, 1, 1),
                    ("call", "u", "u", "u"), ("draw", "a", ((0, 1), (1, 1)), 1), ("back", 1), ("loop", 0), ("add", 1), ("push",), ("go",), ("draw", "a"), ("halt",), ("Loop",), ["loop"], "loop", None, ()]:
            self.bad([row, BACK], [LOOP, row, BACK])
        self.bad([LOOP, ["back"]], [LOOP, ("back", None)], ["back"], "back", {0: BACK}, BACK, Code([BACK]), [Code([BACK])])

    def test_any_value(self):
        self.bad(*any_values())
        self.bad(*[[value] for value in any_values()], *[[value, BACK] for value in any_values()])

    def test_sizes(self):
        for many in (1, 2, 3, 50, 1399, 1400):
            self.assertTrue(is_code(chain(many)))
        for many in (1401, 1402, 3000):
            self.assertFalse(is_code(chain(many)))
        code = Code(chain(1400))
        self.assertEqual(code.ranks, tuple(range(1399, -1, -1)))
        self.assertEqual(code.heights[:5], (0, 1, 0, 1, 0))
        longest = [LOOP] * 1399 + [BACK]
        self.assertEqual(Code(longest).ranks, (0,) * 1400)
        backwards = [("go", 1398)] + [("go", at - 1) for at in range(1, 1399)] + [BACK]
        backwards[1] = ("go", 1399)
        self.assertEqual(Code(backwards).ranks[:4], (1399, 1, 2, 3))
        for rows in (chain(1400), longest, backwards, [PUSH] * 700 + [("add",)] * 699 + [BACK]):
            begun = time.time()
            is_code(rows)
            self.assertLess(time.time() - begun, 0.2)

    def test_ranks(self):
        rows = [PUSH, ("unless", 5), PUSH, SAVE, ("go", 6), LOOP, BACK]
        self.assertEqual(Code(rows).ranks, (5, 4, 3, 2, 1, 0, 0))
        rows = [PUSH, ("unless", 3), LOOP, PUSH, SAVE, BACK]
        self.assertEqual(Code(rows).ranks, (4, 3, 0, 2, 1, 0))

    def test_equality(self):
        rows = [PUSH, ("unless", 4), LOOP, ("go", 0), BACK]
        code = Code(rows)
        self.assertTrue(code == Code(tuple(rows)))
        self.assertFalse(code != Code(rows))
        for other in [Code([BACK]), Code([("push", 2), *rows[1:]]), rows, tuple(rows), code.rows, None, 1, "code", Ratio(1)]:
            self.assertFalse(code == other)
            self.assertTrue(code != other)
        self.assertFalse(is_code(code))
        with self.assertRaises(InvalidCode) as caught:
            Code(code)
        self.assertIs(caught.exception.given, code)

    def test_changed_later(self):
        rows = [LOOP, BACK]
        code = Code(rows)
        rows.insert(0, PUSH)
        rows.append(None)
        self.assertEqual(code.rows, (LOOP, BACK))
        self.assertTrue(code == Code([LOOP, BACK]))


class LineTests(unittest.TestCase):
    def refused(self, lines):
        with self.assertRaises(InvalidLines) as caught:
            read_code(lines)
        self.assertIs(caught.exception.given, lines)

    def test_there_and_back(self):
        random = Random(73)
        for _ in range(80):
            system = TreeMaker(random).system()
            unit, body = random.choice(system[1])
            code = compiled(system, unit, body)
            lines = lines_of(code=code)
            self.assertEqual(len(lines), len(code.rows))
            self.assertTrue(read_code(lines=lines) == code)
            self.assertTrue(read_code(tuple(lines)) == code)
            self.assertEqual(lines_of(read_code(lines)), lines)
            all_new(self, lines, lines_of(code))
            for line, row in zip(lines, code.rows):
                self.assertEqual(line.split(" ")[0], row[0])
                self.assertEqual(line, " ".join(line.split()))

    def test_exact_lines(self):
        rows = [("push", 0), ("load", "hp"), ("add",), ("push", 99), ("take",), ("not",), ("save", "hp"), PUSH, ("unless", 10), LOOP,
                ("draw", "a", ((5, 12), (0, 1))), ("draw", "a", ((1, 2), (0, 1), (3, 4))), ("choose", (("x", 13), ("y", 14), ("z", 0))),
                ("call", "roll"), ("choose", (("p", 15), ("q", 15))), BACK]
        lines = ["push 0", "load hp", "add", "push 99", "take", "not", "save hp", "push 1", "unless 10", "loop", "draw a 5 by 12 0 by 1",
                 "draw a 1 by 2 0 by 1 3 by 4", "choose x 13 y 14 z 0", "call roll", "choose p 15 q 15", "back"]
        self.assertEqual(lines_of(Code(rows)), lines)
        self.assertTrue(read_code(lines) == Code(rows))
        for kind in ("times", "less", "same", "and", "or"):
            self.assertEqual(lines_of(Code([PUSH, PUSH, (kind,), SAVE, BACK])), ["push 1", "push 1", kind, "save a", "back"])
        self.assertTrue(read_code(["go 1", "back"]) == Code([("go", 1), BACK]))

    def test_spoiled_lines(self):
        random = Random(74)
        kept = 0
        for _ in range(60):
            system = SmallMaker(random, 6).system()
            unit, body = random.choice(system[1])
            lines = lines_of(compiled(system, unit, body))
            for _ in range(60):
                at = random.randrange(len(lines))
                line = lines[at]
                to = random.randrange(len(line) + 1)
                sign = random.choice(" 0019ab-+.\n\t~A_")
                changed = random.choice([
                    line[:to] + sign + line[to:], line[:to] + line[to + 1:], line[:to] + sign + line[to + 1:], line + " ", " " + line,
                    line.replace(" ", "  ", 1), line.replace(" ", " 0", 1), line.upper(), line + " 1", line.replace("1", "01", 1)])
                other = random.choice([
                    [*lines[:at], changed, *lines[at + 1:]], [*lines[:at], changed, *lines[at + 1:]], [*lines[:at], *lines[at + 1:]],
                    [*lines[:at], line, *lines[at:]], [*lines[:at], *lines[at + 1:], line], lines[::-1], [*lines, "back"], lines[:-1]])
                kept += self.judge(other)
        self.assertGreater(kept, 50)

    def judge(self, lines):
        """Reads lines by splitting them in the tests' own way; returns whether they are those of a Code."""
        rows = []
        for line in lines:
            words = [int(word) if word.isdigit() and word.isascii() and len(word) < 9 else word for word in line.split(" ")]
            if words[0] == "draw":
                words[2:] = [tuple((words[at], words[at + 2]) for at in range(2, len(words) - 2, 3))]
            elif words[0] == "choose":
                words[1:] = [tuple((words[at], words[at + 1]) for at in range(1, len(words) - 1, 2))]
            rows.append(tuple(words))
        if heights_and_ranks(rows) is not None and lines_of(Code(rows)) == list(lines):
            self.assertTrue(read_code(lines) == Code(rows))
            return True
        self.refused(lines)
        return False

    def test_wrong_lines(self):
        for value in any_values():
            self.refused(value)
            for lines in ([value], [value, "back"], ["back", value], (value,)):
                self.refused(lines)
        for lines in ["back", ("loop",), ["loop"], ["back "], [" back"], ["back", ""], ["", "back"], ["push 01", "save a", "back"], [["back"]],
                      ["push 1 ", "save a", "back"], ["push  1", "save a", "back"], ["push +1", "save a", "back"], ["push -1", "save a", "back"],
                      ["push 1", "save a\n", "back"], ["push 1\nsave a", "back"], ["push 100", "save a", "back"], ["push \u0661", "save a", "back"],
                      ["push", "save a", "back"], ["go 01", "back"], ["go 2", "back"], ["go 1 ", "back"], ["go one", "back"], ["go", "back"],
                      ["draw a 0 by 1", "back"], ["draw a 0 by 1 1", "back"], ["draw a 0 by 1 1 by", "back"], ["draw a 0 by 1 1 to 1", "back"],
                      ["draw a 0 by 1 1 by 1 2", "back"], ["draw a 0 by 1 1 by 1 2 by 1 3 by 1", "back"], ["draw", "back"], ["draw a", "back"],
                      ["draw a 0 by 01 1 by 1", "back"], ["choose x 1", "back"], ["choose x 1 y", "back"], ["choose x 1 y 1 z", "back"],
                      ["choose x 1 x 1", "back"], ["choose x 1 y 01", "back"], ["choose", "back"], ["choose x 1 y 2", "back"], ["loop 1", "back"],
                      ["push " + "1" * 4300, "save a", "back"], ["back"] * 2, ["go " + "9" * 3990, "back"], ["loop"] * 1400 + ["back"]]:
            self.refused(lines)
        self.assertTrue(read_code(["loop"] * 1399 + ["back"]) == Code([LOOP] * 1399 + [BACK]))

    def test_wrong_codes(self):
        for value in [*any_values(), [BACK], (BACK,), ["back"], Code]:
            with self.assertRaises(InvalidCode) as caught:
                lines_of(value)
            self.assertIs(caught.exception.given, value)


if __name__ == "__main__":
    unittest.main()
