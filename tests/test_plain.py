import unittest
from random import Random

from fairpatch.errors import InvalidAnswer, InvalidSteps, InvalidStore, InvalidSystem, NotFair
from fairpatch.plain import play
from fairpatch.ratios import Ratio
from fairpatch.spaces import Space
from fairpatch.texts import read_system
from tests.samples import TreeMaker, any_values
from tests.walks import true_in, value_in

RULES = """
name hp 4
unit roll { draw hp 0 by 1 3 by 2 }
unit game {
  choose strike { call roll } or flee { set hp = hp - 3 }
  while hp < 2 { call roll }
}
"""


def told(system, store, answer):
    """Another way to play: a generator that goes through the bodies, and asks for answers as it comes to them."""
    space, bodies = Space(system[0]), dict(system[1])
    values = space.values_of(store)

    def go(body):
        for statement in body:
            kind = statement[0]
            if kind == "set":
                values[statement[1]] = value_in(statement[2], values) % space.size_of(statement[1])
            elif kind == "if":
                yield from go(statement[2] if true_in(statement[1], values) else statement[3])
            elif kind == "while":
                while true_in(statement[1], values):
                    yield "loop"
                    yield from go(statement[2])
            elif kind == "call":
                yield f"call {statement[1]}"
                yield from go(bodies[statement[1]])
                yield f"back {statement[1]}"
            elif kind == "choose":
                labels = [label for label, _ in statement[1]]
                label = answer(labels)
                if label is None:
                    return
                yield f"choose {label}"
                yield from go(statement[1][labels.index(label)][1])
            else:
                weights = [weight for _, weight in statement[2]]
                part = answer(sum(weights))
                if part is None:
                    return
                value = [value for value, weight in statement[2] for _ in range(weight)][part]
                values[statement[1]] = value
                yield f"turn {part} of {sum(weights)}"

    yield from go(system[1][-1][1])
    yield f"back {system[1][-1][0]}"
    yield space.store_of(values)


def random_game(random, system, store, steps):
    """Plays with random answers by the generator; returns the answers, the lines and the end."""
    answers, lines = [], []

    def answer(asked):
        answers.append(random.choice(asked) if isinstance(asked, list) else random.randrange(asked))
        return answers[-1]

    for line in told(system, store, answer):
        if isinstance(line, int):
            return answers, lines, line
        if len(lines) == steps:
            # what was asked for this step is not taken
            if line.split()[0] in ("choose", "turn"):
                answers.pop()
            return answers, lines, None
        lines.append(line)


class PlayTests(unittest.TestCase):
    def setUp(self):
        self.system = read_system(RULES)

    def refused(self, error, given, *arguments):
        with self.assertRaises(error) as caught:
            play(*arguments)
        self.assertIs(caught.exception.given, given)

    def ends(self, statements, store, answers=()):
        """The end of a game with the names a of 3 and b of 2."""
        lines, end = play(read_system(f"name a 3 name b 2 unit g {{ {statements} }}"), store, answers, 2000)
        self.assertEqual(lines[-1:], ["back g"])
        return end

    def test_examples(self):
        self.assertEqual(play(self.system, 1, ["strike", 0, 2], 9), (
            ["choose strike", "call roll", "turn 0 of 3", "back roll", "loop", "call roll", "turn 2 of 3", "back roll",
             "back game"], 3))
        self.assertEqual(play(self.system, 1, ["flee", "never taken"], 2000), (["choose flee", "back game"], 2))
        self.assertEqual(play(self.system, 0, ["strike", 0], 5),
                         (["choose strike", "call roll", "turn 0 of 3", "back roll", "loop"], None))
        self.assertEqual(play(self.system, 2, [], 2000), ([], None))
        self.assertEqual(play(steps=1, answers=("flee", 1), store=2, system=self.system), (["choose flee"], None))

    def test_expressions(self):
        for expression, number in [
            ("0 - 1", -1), ("a - 99", -97), ("99 * 99", 9801), ("(0 - 7) * 5", -35), ("(99 * 99) * (99 * 99)", 99 ** 4),
            ("0 - (99 * (99 * (99 * 99)))", -99 ** 4), ("a * a", 4), ("(a + b) - (1 - b)", 3), ("a - (a - 1)", 1),
            ("(a - a) - 1", -1),
        ]:
            self.assertEqual(self.ends(f"set a = {expression}", 5), number % 3 * 2 + 1)
            self.assertEqual(self.ends(f"set b = {expression}", 5), 4 + number % 2)

    def test_conditions(self):
        for condition, holds in [
            ("yes", True), ("a < 2", False), ("a < 3", True), ("a = 2", True), ("2 = a", True), ("a = 1", False),
            ("a < a", False), ("0 - 1 < 0", True), ("1 - 4 = 0 - 3", True), ("1 - 4 = a - 2", False), ("a + 1 = 0", False),
            ("not [yes]", False), ("not [a < 2]", True), ("[yes] and [a = 2]", True), ("[yes] and [a = 1]", False),
            ("[a = 1] and [yes]", False), ("[a = 1] or [yes]", True), ("[yes] or [a = 1]", True),
            ("[a = 1] or [a = 0]", False), ("[not [yes]] or [not [a < 2]]", True), ("[a = 1] and [a = 0]", False),
        ]:
            self.assertEqual(self.ends(f"if {condition} {{ set a = 1 }} else {{ set a = 0 }}", 4), 2 if holds else 0)
            self.assertEqual(play(read_system(f"name a 3 unit g {{ while {condition} {{ }} }}"), 2, [], 2),
                             (["loop", "loop"], None) if holds else (["back g"], 2))

    def test_passed_without_steps(self):
        system = read_system("name a 3 unit g { set a = 2 if a < 1 { } else { } while a < 2 { } if yes { set a = 1 } else { } }")
        self.assertEqual(play(system, 0, [], 1), (["back g"], 1))
        self.assertEqual(play(system, 0, [], 0), ([], None))

    def test_empty_bodies(self):
        system = read_system("name a 2 unit u { } unit g { call u choose x { } or y { set a = 1 } while a = 0 { } }")
        self.assertEqual(play(system, 0, ["x"], 5), (["call u", "back u", "choose x", "loop", "loop"], None))
        self.assertEqual(play(system, 0, ["y"], 5), (["call u", "back u", "choose y", "back g"], 1))
        self.assertEqual(play(read_system("name a 2 unit g { }"), 1, [], 1), (["back g"], 1))
        self.assertEqual(play(read_system("name a 2 unit g { }"), 1, [], 0), ([], None))

    def test_while_is_come_to_again(self):
        system = read_system("name a 4 unit g { while a < 3 { set a = a + 1 if a = 1 { } else { } } set a = 0 }")
        self.assertEqual(play(system, 0, [], 2000), (["loop"] * 3 + ["back g"], 0))
        self.assertEqual(play(system, 2, [], 2000), (["loop", "back g"], 0))
        self.assertEqual(play(system, 3, [], 2000), (["back g"], 0))
        nested = read_system("name a 3 name b 2 unit g { while a < 2 { while b < 1 { set b = 1 } set a = a + 1 set b = 0 } }")
        self.assertEqual(play(nested, 0, [], 2000), (["loop"] * 4 + ["back g"], 4))

    def test_each_part_of_the_wheel(self):
        for pairs in [((0, 1), (1, 1)), ((2, 3), (0, 2)), ((1, 12), (2, 12), (0, 12)), ((2, 1), (1, 2), (0, 3))]:
            system = ((("b", 2), ("a", 3)), (("g", (("draw", "a", pairs),)),))
            parts = sum(weight for _, weight in pairs)
            wheel = [value for value, weight in pairs for _ in range(weight)]
            for part in range(parts):
                for store in range(6):
                    self.assertEqual(play(system, store, [part], 9),
                                     ([f"turn {part} of {parts}", "back g"], store // 3 * 3 + wheel[part]))
            for part in [parts, -1, True, False, None, "0", Ratio(0), [0], (0,), 10 ** 60]:
                answers = [part]
                self.refused(InvalidAnswer, answers, system, 0, answers, 1)

    def test_labels(self):
        system = read_system("name a 3 unit g { choose x { } or y { set a = 1 } or z { set a = 2 } }")
        for at, label in enumerate("xyz"):
            self.assertEqual(play(system, 0, (label,), 9), ([f"choose {label}", "back g"], at))
        for label in [*any_values(), "X", "w", "", 0, True, ["x"], ("x",), "choose x"]:
            for answers in ([label], (label, "x")):
                self.refused(InvalidAnswer, answers, system, 0, answers, 1)

    def test_calls_of_calls(self):
        system = read_system(
            "name a 4 unit one { set a = a + 1 } unit two { call one call one } unit three { call two call one }")
        lines = ["call two", "call one", "back one", "call one", "back one", "back two", "call one", "back one", "back three"]
        self.assertEqual(play(system, 0, [], 2000), (lines, 3))
        for steps in range(9):
            self.assertEqual(play(system, 0, [], steps), (lines[:steps], None))
        self.assertEqual(play(system, 2, [], 9), (lines, 1))

    def test_a_call_goes_on_behind_itself(self):
        system = read_system("name a 3 unit u { draw a 0 by 1 2 by 1 } unit g { while a < 2 { call u } set a = 1 }")
        self.assertEqual(play(system, 1, [0, 0, 1], 2000), (
            ["loop", "call u", "turn 0 of 2", "back u"] * 2 + ["loop", "call u", "turn 1 of 2", "back u", "back g"], 1))

    def test_against_another_way(self):
        random = Random(22)
        ended = 0
        for _ in range(400):
            system = TreeMaker(random).system()
            store = random.randrange(len(Space(system[0])))
            steps = random.choice((0, 1, 5, 40, 300))
            answers, lines, end = random_game(random, system, store, steps)
            ended += end is not None
            more = [*answers, None, "no item", {}]
            if end is not None:
                self.assertEqual(play(system, store, more, len(lines)), (lines, end))
                self.assertEqual(play(system, store, tuple(answers), 2000), (lines, end))
            self.assertEqual(play(system, store, answers, steps), (lines, end))
            self.assertEqual(play(system, store, more, steps), (lines, end))
            for fewer in {0, len(lines) // 2, max(len(lines) - 1, 0)} - {len(lines)}:
                self.assertEqual(play(system, store, answers, fewer), (lines[:fewer], None))
            for taken in range(len(answers)):
                told_lines, told_end = play(system, store, answers[:taken], steps)
                self.assertIsNone(told_end)
                self.assertEqual(told_lines, lines[:len(told_lines)])
                self.assertEqual(sum(line.split()[0] in ("choose", "turn") for line in told_lines), taken)
                self.assertIn(lines[len(told_lines)].split()[0], ("choose", "turn"))
        self.assertGreater(ended, 100)

    def test_calls_are_games_of_their_own(self):
        random = Random(23)
        seen = 0
        for _ in range(300):
            system = TreeMaker(random).system()
            answers, lines, end = random_game(random, system, 0, 200)
            for at, line in enumerate(lines):
                unit = line.split()[1:2]
                if not line.startswith("call") or f"back {unit[0]}" not in lines[at:]:
                    continue
                behind = lines.index(f"back {unit[0]}", at) + 1
                names = [name for name, _ in system[1]]
                alone = (system[0], system[1][:names.index(unit[0]) + 1])
                begun = sum(one.split()[0] in ("choose", "turn") for one in lines[:at])
                told_alone = [play(alone, store, answers[begun:], behind - at - 1) for store in range(len(Space(system[0])))
                              if self.is_played(alone, store, answers[begun:], behind - at - 1)]
                self.assertIn(lines[at + 1:behind], [told_lines for told_lines, _ in told_alone])
                seen += 1
        self.assertGreater(seen, 50)

    def is_played(self, *arguments):
        try:
            return play(*arguments)[1] is not None
        except InvalidAnswer:
            return False

    def test_two_thousand_steps(self):
        system = read_system("name a 2 unit g { while yes { set a = a + 1 choose x { } or y { } } }")
        lines, end = play(system, 0, ["x"] * 1500, 2000)
        self.assertEqual((lines, end), (["loop", "choose x"] * 1000, None))
        self.assertEqual(play(system, 0, ["y"] * 10, 2000), (["loop", "choose y"] * 10 + ["loop"], None))

    def test_errors_in_their_order(self):
        for system in [*any_values(), (self.system[0], list(self.system[1]))]:
            self.refused(InvalidSystem, system, system, None, None, None)
        with self.assertRaises(NotFair) as caught:
            play(read_system("name a 2 unit b { call c }"), None, None, None)
        self.assertEqual((caught.exception.reason, caught.exception.unit, caught.exception.word), ("call", "b", "c"))
        for store in [-1, 4, True, False, None, "0", Ratio(0), [0], 10 ** 60]:
            self.refused(InvalidStore, store, self.system, store, None, None)
            self.refused(InvalidStore, store, self.system, store, [], 5)
        for steps in [-1, 2001, True, False, None, "0", Ratio(1), [0], 10 ** 60]:
            self.refused(InvalidSteps, steps, self.system, 0, None, steps)
            self.refused(InvalidSteps, steps, self.system, 0, ["wrong"], steps)
        for answers in [None, 1, "", "flee", {}, {"flee": 1}, Ratio(1), True]:
            for steps in (0, 1, 2000):
                self.refused(InvalidAnswer, answers, self.system, 0, answers, steps)

    def test_items_that_are_not_taken(self):
        wrong = ["no label", None]
        self.assertEqual(play(self.system, 0, wrong, 0), ([], None))
        self.refused(InvalidAnswer, wrong, self.system, 0, wrong, 1)
        late = ["strike", 3]
        self.assertEqual(play(self.system, 0, late, 2), (["choose strike", "call roll"], None))
        self.refused(InvalidAnswer, late, self.system, 0, late, 3)
        for value in any_values():
            self.assertEqual(play(self.system, 0, ["flee", 0, value], 4),
                             (["choose flee", "loop", "call roll", "turn 0 of 3"], None))

    def test_arguments_and_results(self):
        answers = ["strike", 0, 2, ["left"]]
        first = play(self.system, 1, answers, 9)
        self.assertEqual(answers, ["strike", 0, 2, ["left"]])
        first[0].clear()
        again = play(self.system, 1, tuple(answers), 9)
        self.assertEqual(len(again[0]), 9)
        self.assertIsInstance(again, tuple)
        self.assertIsInstance(again[0], list)


if __name__ == "__main__":
    unittest.main()
