import re
import time
import unittest
from random import Random

from fairpatch.errors import InvalidSystem, InvalidText, NoSystem
from fairpatch.ratios import Ratio
from fairpatch.spaces import Space
from fairpatch.texts import is_tree, read_system, write_system
from tests.grammar import first_refused
from tests.samples import TreeMaker, any_values, nested

NAMES = (("a", 2),)
BEGIN = "name a 2 unit b { "


def of_body(body):
    return (NAMES, (("b", body),))


def of_expression(expression):
    return of_body((("set", "a", expression),))


def of_condition(condition):
    return of_body((("if", condition, (), ()),))


def chain(depth, left=True):
    """An expression just so deep."""
    inner = ("num", 1)
    for _ in range(depth - 1):
        inner = ("+", inner, ("name", "a")) if left else ("-", ("name", "a"), inner)
    return inner


def nots(depth):
    """A condition just so deep."""
    inner = ("yes",)
    for _ in range(depth - 1):
        inner = ("not", inner)
    return inner


def joins(depth):
    inner = ("yes",)
    for _ in range(depth - 1):
        inner = ("or", ("yes",), inner)
    return inner


def whiles(depth, between):
    body = ()
    for _ in range(depth):
        body = (("while", ("yes",), between(body)),)
    return body


BETWEEN = [
    lambda body: body,
    lambda body: (("if", ("yes",), (), body),),
    lambda body: (("choose", (("x", ()), ("y", body))),),
    lambda body: (("if", ("yes",), (("choose", (("x", body), ("y", ()), ("z", ()))),), ()),),
]
CALL = ("call", "b")


class TreeTests(unittest.TestCase):
    def good(self, *values):
        for value in values:
            self.assertIs(is_tree(value), True, value)
            self.assertEqual(read_system(write_system(value)), value)

    def bad(self, *values):
        for value in values:
            self.assertIs(is_tree(value), False, value)
            with self.assertRaises(InvalidSystem) as caught:
                write_system(value)
            self.assertIs(caught.exception.given, value)

    def test_any_values(self):
        self.bad(*any_values())
        self.assertIs(is_tree(value=of_body(())), True)

    def test_names(self):
        units = (("b", ()),)
        self.good(((("a", 2), ("a", 6), ("b", 6)), units), ((("b", 3),), units))
        self.bad(
            ((), units), ((("a", 2),) * 4, units), ([("a", 2)], units), ((["a", 2],), units), ((("a", 2, 2),), units),
            ((("a",),), units), ((("a", 1),), units), ((("a", 7),), units), ((("a", True),), units), ("a", units),
            ((("a", "2"),), units), ((("set", 2),), units), ((("A", 2),), units), ((("abcdefghi", 2),), units),
            (("a", 2), units), ((("a", Ratio(2)),), units), ((None,), units), (None, units),
        )

    def test_units(self):
        self.good((NAMES, (("b", ()),) * 6), (NAMES, (("a", ()),)))
        self.bad(
            (NAMES, ()), (NAMES, (("b", ()),) * 7), (NAMES, [("b", ())]), (NAMES, (["b", ()],)), (NAMES, (("b",),)),
            (NAMES, (("b", (), ()),)), (NAMES, (("b", []),)), (NAMES, (("B", ()),)), (NAMES, (("unit", ()),)),
            (NAMES, (("", ()),)), (NAMES, ((1, ()),)), (NAMES, (("b", None),)), (NAMES, ("b", ())), (NAMES, "bb"),
            (NAMES,), (NAMES, (("b", ()),), ()), [NAMES, (("b", ()),)], (NAMES, {"b": ()}), (Space(NAMES), (("b", ()),)),
        )

    def test_wrong_statements(self):
        one = ("num", 1)
        self.bad(*[of_body((statement,)) for statement in [
            None, 1, "set", (), ("set",), ("set", "a"), ("set", "a", one, one),
            ("set", "a", one, one, one), ("draw", "a", ((0, 1), (1, 1)), (), ()), ("if", ("yes",), (), (), (), ()),
            ("while", ("yes",), (), (), ()), ("call", "b", (), (), ()), ["set", "a", one], ("set", "A", one),
            ("set", "if", one), ("set", "a", 1), ("set", "a", ["num", 1]), ("Set", "a", one), (None, "a", one),
            ("draw",), ("draw", "a"), ("draw", "a", ()), ("draw", "a", ((0, 1),)), ("draw", "a", ((0, 1),) * 4),
            ("draw", "a", [(0, 1), (1, 1)]), ("draw", "a", ([0, 1], (1, 1))), ("draw", "a", ((0, 1), (6, 1))),
            ("draw", "a", ((0, 1), (-1, 1))), ("draw", "a", ((0, 0), (1, 1))), ("draw", "a", ((0, 13), (1, 1))),
            ("draw", "a", ((False, 1), (1, 1))), ("draw", "a", ((0, True), (1, 1))), ("draw", "a", ((0, 1, 1), (1, 1))),
            ("draw", "a", ((0,), (1, 1))), ("draw", "or", ((0, 1), (1, 1))), ("draw", "a", ((0, 1), (1, 1)), ()),
            ("choose", ()), ("choose", (("x", ()),)), ("choose", (("x", ()),) * 4), ("choose", [("x", ()), ("y", ())]),
            ("choose", (["x", ()], ("y", ()))), ("choose", (("x", []), ("y", ()))), ("choose", (("X", ()), ("y", ()))),
            ("choose", (("x",), ("y", ()))), ("choose", (("x", ()), ("by", ()))), ("choose", (("x", ()), ("y", None))),
            ("choose", (("x", ()), ("y", ())), ()), ("choose",), ("choose", (("x", ((),)), ("y", ()))),
            ("if", ("yes",), ()), ("if", ("yes",)), ("if", ("yes",), (), (), ()), ("if", ("yes",), [], ()),
            ("if", ("yes",), (), []), ("if", ["yes"], (), ()), ("if", "yes", (), ()), ("if", one, (), ()),
            ("if", ("yes",), ((),), ()), ("if", ("yes",), (), (None,)), ("if", ("yes",), None, ()),
            ("while", ("yes",)), ("while", ("yes",), [], ), ("while", ("yes",), (), ()), ("while", (), ()),
            ("while", ("yes",), (("call",),)), ("while", ("yes",), 1), ("call",), ("call", "B"), ("call", "call"),
            ("call", "b", "b"), ("call", ("b",)), ("call", None), ["call", "b"], ("pass", "b"), (Ratio(1), "b"),
        ]])

    def test_expressions(self):
        self.good(*[of_expression(one) for one in [
            ("num", 0), ("num", 99), ("name", "a"), ("name", "num"), ("+", ("num", 1), ("num", 2)),
            ("-", ("name", "b"), ("*", ("num", 1), ("num", 2))), chain(6), chain(6, False),
            nested_pairs(6),
        ]])
        self.bad(*[of_expression(one) for one in [
            ("num", 100), ("num", -1), ("num", True), ("num", "1"), ("num", None), ("num",), ("num", 1, 1), ("name",),
            ("name", "A"), ("name", 1), ("name", "yes"), ("name", ("num", 1)), ("/", ("num", 1), ("num", 1)),
            ("+", ("num", 1)), ("+", ("num", 1), ("num", 1), ("num", 1)), ("+", ["num", 1], ("num", 1)), ("+", 1, 2),
            ["num", 1], ("+",), (), "a", 1, None, ("yes",), ("less", ("num", 1), ("num", 1)), ("", ("num", 1), ("num", 1)),
            chain(7), chain(7, False), nested_pairs(7), (("+",), ("num", 1), ("num", 1)), ("num", Ratio(1)),
        ]])

    def test_conditions(self):
        one = ("num", 1)
        self.good(*[of_condition(condition) for condition in [
            ("yes",), ("less", one, one), ("same", chain(5), one), ("less", one, chain(5, False)), ("not", ("yes",)),
            ("and", ("yes",), ("not", ("yes",))), ("or", ("same", one, one), ("yes",)), nots(6), joins(6),
            ("not", ("not", ("not", ("not", ("less", one, one))))), ("not", ("same", chain(4), chain(4))),
            ("and", nots(5), nots(5)), ("or", ("less", chain(4), one), ("same", one, chain(4))),
        ]])
        self.bad(*[of_condition(condition) for condition in [
            ("yes", 1), ("no",), (), "yes", None, True, ("less", one), ("less", one, one, one), ("same", one, ("yes",)),
            ("not",), ("not", one), ("not", ("yes",), ("yes",)), ("and", ("yes",)), ("and", ("yes",), one), ["yes"],
            ("or", ["yes"], ("yes",)), ("or", ("yes",), ("yes",), ("yes",)), ("less", 1, 2), nots(7), joins(7),
            ("same", chain(6), one), ("less", one, chain(6)), ("same", one, chain(6, False)), ("not", ("less", chain(5), one)),
            ("and", nots(6), ("yes",)), ("or", ("yes",), nots(6)), ("and", ("less", chain(5), one), ("yes",)), ("more", one, one), ("name", "a"),
            ("not", ("not", ("not", ("not", ("not", ("less", one, one)))))),
        ]])

    def test_counts_of_statements(self):
        for body in [(CALL,) * 20, nest(20), (CALL,) * 10 + nest(10), (("if", ("yes",), (CALL,) * 9, (CALL,) * 10),),
                     (("choose", (("x", (CALL,) * 6), ("y", (CALL,) * 6), ("z", (CALL,) * 7))),)]:
            self.good(of_body(body), (NAMES, (("b", body),) * 3), (NAMES, (("b", body),) * 3 + (("b", ()),) * 3))
            self.bad(of_body((*body, CALL)), (NAMES, (("b", ()), ("b", (*body, CALL)))))
            self.bad((NAMES, (("b", body),) * 3 + (("b", (CALL,)),)), (NAMES, (("b", body),) * 6))
        self.good((NAMES, (("b", (CALL,) * 10),) * 6))
        self.bad((NAMES, (("b", (CALL,) * 10),) * 5 + (("b", (CALL,) * 11),)))
        self.bad(of_body(nest(21)), of_body(nest(40)), of_body((CALL,) * 100000))

    def test_while_in_one_another(self):
        for between in BETWEEN:
            self.good(of_body(whiles(3, between)), of_body(whiles(3, between) + whiles(3, between)))
            self.bad(of_body(whiles(4, between)), of_body((CALL,) + whiles(4, between)))
        self.good(of_body(whiles(1, lambda body: (("while", ("yes",), ()),) * 9)))

    def test_short_to_write_but_endless(self):
        expression, condition, body = ("num", 1), ("yes",), ()
        for _ in range(40):
            expression = ("+", expression, expression)
            condition = ("and", condition, condition)
            body = (("if", ("yes",), body, body),)
        self.bad(of_expression(expression), of_condition(condition), of_body(body))

    def test_deep_values(self):
        self.bad(of_expression(nested(85, lambda inner: ("+", inner, ("num", 1)))))
        self.bad(of_condition(nested(85, lambda inner: ("not", inner))))
        self.bad(of_body(nested(42, lambda inner: (("while", ("yes",), inner),))))
        self.bad(of_body(nested(85, lambda inner: (inner,))))


def nested_pairs(depth):
    """An expression of this depth with as many parts as it can have."""
    return ("name", "a") if depth == 1 else ("*", nested_pairs(depth - 1), nested_pairs(depth - 1))


def nest(count):
    """A body with so many statements one in another."""
    body = ()
    for _ in range(count):
        body = (("if", ("yes",), (), body),)
    return body


def pieces(text):
    return re.findall(r"[a-z0-9]+|[^ \n]", text)


def spread(random, row):
    """A string with these pieces, and blanks and line feeds at random between them."""
    text = random.choice(("", " ", "\n", "\n \n"))
    for at, piece in enumerate(row):
        needed = at and re.fullmatch("[a-z0-9]", row[at - 1][-1]) and re.fullmatch("[a-z0-9]", piece[0])
        blanks = random.choice(("", " ", " ", "\n", "  \n "))
        text += (blanks or " " if needed else blanks) + piece
    return text + random.choice(("", " ", "\n", " \n", "\n\n  "))


class TextTests(unittest.TestCase):
    def place(self, text):
        with self.assertRaises(NoSystem) as caught:
            read_system(text)
        return caught.exception.line, caught.exception.column

    def judge(self, text):
        """Compares the reader with the grammar; returns whether the string is a text."""
        told = first_refused(text)
        if told is None:
            self.assertTrue(is_tree(read_system(text)))
        else:
            self.assertEqual(self.place(text), told, text)
        return told is None

    def test_written_line_by_line(self):
        system = (
            (("hp", 3), ("a", 2)),
            (("b", ()),
             ("game", (
                 ("set", "hp", ("*", ("+", ("name", "hp"), ("num", 1)), ("-", ("num", 99), ("*", ("num", 0), ("num", 2))))),
                 ("draw", "a", ((0, 1), (1, 12))), ("draw", "hp", ((0, 1), (2, 3), (1, 2))),
                 ("choose", (("x", (("call", "b"),)), ("y", ()))),
                 ("while", ("and", ("not", ("yes",)), ("or", ("less", ("num", 1), ("num", 2)),
                                                       ("same", ("+", ("num", 1), ("num", 2)), ("name", "a")))),
                  (("choose", (("x", ()), ("y", ()), ("z", (("if", ("yes",), (("call", "b"),), ()),)))),)),
             ))))
        lines = [
            "name hp 3", "name a 2", "unit b {", "}", "unit game {", "  set hp = (hp + 1) * (99 - (0 * 2))",
            "  draw a 0 by 1 1 by 12", "  draw hp 0 by 1 2 by 3 1 by 2", "  choose x {", "    call b", "  } or y {", "  }",
            "  while [not [yes]] and [[1 < 2] or [1 + 2 = a]] {", "    choose x {", "    } or y {", "    } or z {",
            "      if yes {", "        call b", "      } else {", "      }", "    }", "  }", "}",
        ]
        self.assertEqual(write_system(system), "\n".join(lines))
        self.assertEqual(write_system(system=system), "\n".join(lines))
        self.assertEqual(read_system("\n".join(lines)), system)

    def test_there_and_back(self):
        random = Random(15)
        for _ in range(200):
            system = TreeMaker(random).system()
            self.assertTrue(is_tree(system))
            text = write_system(system)
            self.assertEqual(read_system(text=text), system)
            self.assertEqual(read_system(spread(random, pieces(text))), system)
            self.assertEqual(read_system(text.replace("\n", " ")), system)
            self.assertEqual(write_system(read_system(text)), text)
            for line in text.split("\n"):
                self.assertNotRegex(line, r"\S  |\( |\[ | \)| \]| $")

    def test_blanks_that_are_none(self):
        for sign in "\t\r\f\v\u00a0\u2003":
            self.assertEqual(self.place("name" + sign + "a 2 unit b { }"), (1, 5))
            self.assertEqual(self.place("name a 2 unit b { }\n" + sign), (2, 1))

    def test_examples(self):
        self.assertEqual(self.place("name hp 3\nunit game { set hp = }"), (2, 22))
        self.assertEqual(self.place("name a 2 unit b { set a = (a) }"), (1, 29))
        self.assertEqual(self.place("name a 2 unit b { set a = (((((a"), (1, 31))
        self.assertEqual(write_system(read_system("name a 2 unit b{if a+1<2{set a=(a+1)*2}else{}}")),
                         "name a 2\nunit b {\n  if a + 1 < 2 {\n    set a = (a + 1) * 2\n  } else {\n  }\n}")

    def test_ends_too_early(self):
        for text, told in [
            ("", (1, 1)), (" ", (1, 2)), ("\n", (2, 1)), ("\n\n ", (3, 2)), ("name", (1, 5)), ("name a 2\n", (2, 1)),
            ("name a 2 unit b { ", (1, 19)), ("name a 2", (1, 9)), ("name a 2 unit b {\n}\nunit c { set a = 1", (3, 19)),
        ]:
            self.assertEqual(self.place(text), told)

    def test_cut_at_each_sign(self):
        random = Random(16)
        for _ in range(20):
            text = write_system(TreeMaker(random).system())
            begin = random.randrange(len(text))
            for at in range(begin, min(len(text), begin + 150)):
                self.judge(text[:at])
                self.judge(text[:at] + random.choice("$%A\t\"_.,;:>/~Zz9 \n") + text[at:])

    def test_pieces_changed(self):
        random = Random(17)
        others = pieces("name unit set draw choose or if else while call by yes not and a 0 1 12 13 99 100 007 00 a1 "
                        "abcdefghi { } ( ) [ ] < = + - * $ A % 5 6 2")
        texts = 0
        for _ in range(800):
            row = pieces(write_system(TreeMaker(random).system()))
            for _ in range(random.choice((1, 1, 2))):
                at = random.randrange(len(row))
                deed = random.randrange(4)
                if deed == 0:
                    row[at:at + 1] = []
                elif deed == 1:
                    row.insert(at, random.choice(others))
                elif deed == 2:
                    row[at] = random.choice(others)
                else:
                    row.insert(at, row[at])
                row = row or ["name"]
            texts += self.judge(spread(random, row))
        self.assertGreater(texts, 5)

    def test_random_walks(self):
        """Goes on with whatever piece is let by, so that bounds are come to."""
        random = Random(18)
        others = pieces("set set draw choose or if else while while call by yes not and a b 0 1 { { } ( ( ) [ [ ] < = + * $")
        for _ in range(150):
            row = pieces(BEGIN) + random.choice(([], pieces("set a ="), pieces("if"), pieces("while yes {")))
            for _ in range(60):
                longer = " ".join([*row, random.choice(others)])
                if not self.judge(longer) and self.place(longer) == (1, len(longer) + 1):
                    row = pieces(longer)

    def test_sizes_numbers_and_words(self):
        for text, told in [
            ("name a 1", (1, 8)), ("name a 7", (1, 8)), ("name a 02", (1, 8)), ("name a 22", (1, 8)), ("name a b", (1, 8)),
            ("name set 2", (1, 6)), ("name abcdefghi 2", (1, 6)), ("name a2 2", (1, 6)), ("nam a 2", (1, 1)),
            ("unit b { }", (1, 1)), ("name a 2 }", (1, 10)), ("name a 2 name b 2 name c 2 name", (1, 28)),
            (BEGIN + "set a = 100", (1, 27)), (BEGIN + "set a = 01", (1, 27)), (BEGIN + "set a = 00", (1, 27)),
            (BEGIN + "set a = " + "9" * 5000, (1, 27)), (BEGIN + "set a = a1", (1, 27)), (BEGIN + "set a = - 1", (1, 27)),
            (BEGIN + "draw a 6", (1, 26)), (BEGIN + "draw a 0 by 0", (1, 31)), (BEGIN + "draw a 0 by 13", (1, 31)),
            (BEGIN + "draw a 0 by 12 }", (1, 34)), (BEGIN + "draw a 0 by 1 1 by 1 2 by 1 3", (1, 47)),
            (BEGIN + "draw a 0 1", (1, 28)), (BEGIN + "draw a 0 by 1 1 by 1 6", (1, 40)),
            (BEGIN + "choose x { } }", (1, 32)), (BEGIN + "choose x { } or y { } or z { } or", (1, 50)),
            (BEGIN + "call b } } ", (1, 28)), (BEGIN + "or", (1, 19)), (BEGIN + "set a = b + c + d", (1, 33)),
            (BEGIN + "set a = b < c", (1, 29)), (BEGIN + "if (a < 1", (1, 25)), (BEGIN + "if [a]", (1, 24)),
            (BEGIN + "if yes and", (1, 26)), (BEGIN + "if not yes", (1, 26)), (BEGIN + "if [yes] {", (1, 28)),
            (BEGIN + "if [[yes] and [yes]] {", (1, 40)), (BEGIN + "if a { }", (1, 24)), (BEGIN + "if yes { } }", (1, 30)),
            (BEGIN + "if yes { } else call", (1, 35)), (BEGIN + "while 1 = 1 = 1", (1, 31)), ("unit", (1, 1)),
        ]:
            self.assertEqual(self.place(text), told, text)
            self.assertFalse(self.judge(text))

    def test_depths(self):
        for text, told in [
            ("set a = " + "( " * 5, 9 + 8), ("set a = 1 + " + "( " * 5, 13 + 8), ("set a = " + "(1 + " * 5, 9 + 20),
            ("if " + "not [" * 6, 4 + 25), ("if " + "[" * 6, 4 + 5), ("while " + "[yes] or [" * 6, 7 + 50),
            ("if not[not[not[not[not[a", 4 + 20), ("if not[not[not[not[a + 1 <", 4 + 18), ("if not[not[(", 4 + 0),
            ("if not[not[not[(", 4 + 12), ("if ((((", 4 + 3), ("if not[not[((", 4 + 9), ("if a < ((((", 8 + 3),
        ]:
            if told == 4:
                self.assertEqual(self.place(BEGIN + text), (1, len(BEGIN + text) + 1))
            else:
                self.assertEqual(self.place(BEGIN + text), (1, len(BEGIN) + told), text)
            self.judge(BEGIN + text)
        self.assertTrue(self.judge(BEGIN + "set a = ((((1 + 2) * 3) - 4) + a) * (1 + (2 + (3 + (4 + 5)))) }"))
        self.assertTrue(self.judge(BEGIN + "if not[not[not[not[not[yes]]]]] { } else { } }"))
        self.assertTrue(self.judge(BEGIN + "if not[not[not[not[a < 1]]]] { } else { } }"))

    def test_counts(self):
        full = "call b " * 20
        self.assertTrue(self.judge("name a 2 unit b {" + full + "}"))
        self.assertFalse(self.judge("name a 2 unit b {" + full + " set"))
        self.assertEqual(self.place("name a 2 unit b {" + full + "set"), (1, 18 + 140))
        three = ("unit b {" + full + "} ") * 3
        self.assertTrue(self.judge("name a 2 " + three + "unit b { } unit b { } unit b { }"))
        for kind in ("set", "draw", "choose", "if", "while", "call"):
            self.assertEqual(self.place("name a 2 " + three + "unit b { " + kind), (1, 10 + len(three) + 9))
        self.assertEqual(self.place("name a 2 " + "unit b { } " * 7), (1, 10 + 66))
        inside = "if yes { } else { " * 20
        self.assertEqual(self.place(BEGIN + inside + "call b"), (1, 19 + len(inside)))
        self.assertEqual(self.place(BEGIN + "while yes { " * 3 + "if yes { while"), (1, 19 + 36 + 9))
        self.assertTrue(self.judge(BEGIN + "while yes { " * 3 + "} while yes { } " + "} } }"))

    def test_hundreds_one_in_another(self):
        for part, told in [
            ("set a = " + "(" * 900, 27 + 4), ("if " + "[" * 900, 22 + 5), ("if " + "not[" * 900, 22 + 20),
            ("if yes { " * 900, 19 + 9 * 20), ("while yes { " * 900, 19 + 36), ("choose x { " * 900, 19 + 220),
            ("{" * 900, 19), ("set a = " + "1 + (" * 900, 27 + 24),
        ]:
            self.assertEqual(self.place(BEGIN + part), (1, told))
            self.assertFalse(self.judge(BEGIN + part))

    def test_long_strings(self):
        self.assertEqual(self.place(" " * 40000), (1, 40001))
        self.assertEqual(self.place("\n" * 40000), (40001, 1))
        self.assertEqual(self.place("name " * 8000), (1, 6))
        self.assertEqual(self.place("9" * 40000), (1, 1))
        self.assertTrue(is_tree(read_system("name a 2" + " \n" * 19000 + "unit b { }")))

    def test_integers_as_fast_as_names(self):
        def time_with(leaf):
            expression = leaf
            for depth in range(5):
                expression = f"{expression} + {expression}" if depth == 0 else f"({expression}) + ({expression})"
            text = "name a 2 name b 2 name c 2 " + f"unit u {{ {('set a = ' + expression + ' ') * 20} }} " * 3
            best = 9
            for _ in range(7):
                begun = time.perf_counter()
                system = read_system(text)
                best = min(best, time.perf_counter() - begun)
            self.assertEqual(write_system(system).count("set a = "), 60)
            return best

        self.assertLess(time_with("9"), 2 * time_with("a"))
        self.assertLess(time_with("99"), 2 * time_with("a"))

    def test_signs_that_are_no_digits(self):
        for sign in "\u00b2\u0663\uff11\u2460":
            for piece in (sign, "1" + sign, sign + "1"):
                place = 28 if piece[0] == "1" else 27
                self.assertEqual(self.place(BEGIN + "set a = " + piece), (1, place))

    def test_no_strings(self):
        for value in any_values():
            if not isinstance(value, str):
                with self.assertRaises(InvalidText) as caught:
                    read_system(value)
                self.assertIs(caught.exception.given, value)


if __name__ == "__main__":
    unittest.main()
