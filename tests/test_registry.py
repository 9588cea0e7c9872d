import time
import unittest
from random import Random

from fairpatch.checks import is_fair, with_body
from fairpatch.errors import (
    InvalidBody, InvalidEdition, InvalidLines, InvalidSystem, InvalidUnit, NotFair, NotLet, PatchError, TooGreat, TooMany, TooRich,
)
from fairpatch.forward import summary
from fairpatch.machine import Game, Shelf
from fairpatch.registry import Registry, read_registry
from fairpatch.stands import is_paper_for, paper_for
from fairpatch.texts import is_tree, read_system, write_system
from tests.houses import CLUB, HouseMaker, some_bodies, small_registry, wrong_numbers
from tests.judges import all_new, lists_in
from tests.samples import TreeMaker, any_values
from tests.test_forward import GREAT, inside, tree
from tests.test_picks import THREE, TWO

HEAD = "name a 2 name b 2 "


class Twin:
    """A registry by plain lists, with papers of the stage ahead."""

    def __init__(self, system):
        self.system = system
        self.bodies = {unit: [body] for unit, body in system[1]}
        self.papers = {unit: [None] for unit, _ in system[1]}
        self.stands = {unit: 0 for unit, _ in system[1]}

    def exchange(self, unit, body):
        with_body(self.system, unit, body)
        if body not in self.bodies[unit]:
            if len(self.bodies[unit]) == 12:
                raise TooMany(13)
            paper = paper_for(self.system, unit, body)
            if paper[0] == "no":
                raise NotLet(*paper[1:])
            self.bodies[unit].append(body)
            self.papers[unit].append(paper)
        self.stands[unit] = self.bodies[unit].index(body)
        return self.stands[unit]

    def lines(self):
        found = write_system(self.system).split("\n")
        for unit, bodies in self.bodies.items():
            for number, body in list(enumerate(bodies))[1:]:
                text = write_system((self.system[0], ((unit, body),)))
                found += [f"edition {number}", *text.split("\n")[len(self.system[0]):]]
        return found + [f"stand {unit} {number}" for unit, number in self.stands.items()]


class RegistryTests(unittest.TestCase):
    def refused(self, error, given, call, *arguments):
        with self.assertRaises(error) as caught:
            call(*arguments)
        self.assertIs(caught.exception.given, given)

    def raised(self, error, attributes, call, *arguments, **named):
        with self.assertRaises(error) as caught:
            call(*arguments, **named)
        self.assertEqual(vars(caught.exception), attributes)
        return caught.exception

    def same(self, registry, twin):
        self.assertEqual(registry.published(), twin.system)
        for unit, bodies in twin.bodies.items():
            self.assertEqual(registry.standing(unit), twin.stands[unit])
            self.assertEqual(registry.editions(unit), list(enumerate(bodies)))
            for number, paper in enumerate(twin.papers[unit]):
                told = registry.paper(unit=unit, number=number)
                self.assertEqual(told, paper)
                all_new(self, told, registry.paper(unit, number))
                if number:
                    self.assertIs(told.__class__, tuple)
                    self.assertTrue(is_paper_for(twin.system, unit, bodies[number], told))
        current = (twin.system[0], tuple((unit, bodies[twin.stands[unit]]) for unit, bodies in twin.bodies.items()))
        self.assertEqual(registry.current(), current)
        self.assertEqual(registry.lines(), twin.lines())
        all_new(self, registry.lines(), registry.lines())


class ExchangeTests(RegistryTests):
    def test_against_lists(self):
        random, told = Random(201), {"new": 0, "again": 0, "no": 0, "err": 0}
        for _ in range(45):
            maker = HouseMaker(random, 4)
            system = maker.system()
            registry, twin = Registry(system=system), Twin(system)
            self.assertIsInstance(registry, Shelf)
            self.same(registry, twin)
            for _ in range(12):
                unit = random.choice(system[1])[0]
                if random.random() < 0.2:
                    number = random.randrange(len(twin.bodies[unit]))
                    self.assertIsNone(registry.stand(unit, number))
                    twin.stands[unit] = number
                    continue
                body = random.choice(some_bodies(random, maker, registry, unit))
                again = body in twin.bodies[unit]
                try:
                    number = twin.exchange(unit, body)
                except PatchError as error:
                    caught = self.raised(error.__class__, vars(error), registry.exchange, unit, body)
                    self.raised(error.__class__, vars(error), registry.exchange, body=body, unit=unit)
                    for one in lists_in([value for value in vars(caught).values() if isinstance(value, list)])[1:]:
                        one.clear()
                    self.raised(error.__class__, vars(error), registry.exchange, unit, body)
                    told["no" if isinstance(error, NotLet) else "err"] += 1
                else:
                    self.assertEqual(registry.exchange(unit, body), number)
                    told["again" if again else "new"] += 1
                self.same(registry, twin)
            self.what_stands_brings_no_more(registry)
        self.assertGreater(min(told["new"], told["again"], told["no"]), 60)

    def what_stands_brings_no_more(self, registry):
        """Each unit brings in the current system only lots that it brings in the published one."""
        system, current = registry.published(), registry.current()
        if current == system or not is_tree(current):
            return
        try:
            for unit, body in system[1]:
                ahead, now = summary(system, unit), summary(current, unit)
                self.assertTrue(all(inside(lots, lot) for lots, others in zip(ahead, now) for lot in others))
        except (TooMany, TooRich, TooGreat):
            pass

    def test_two_orders(self):
        random, seen = Random(202), 0
        for _ in range(25):
            first = small_registry(random, tries=10)
            editions = [(unit, body) for unit, _ in first.published()[1] for number, body in first.editions(unit) if number]
            random.shuffle(editions)
            second = Registry(first.published())
            for unit, body in editions:
                second.exchange(unit, body)
                seen += 1
            for unit, _ in first.published()[1]:
                self.assertEqual(sorted(body for _, body in first.editions(unit)), sorted(body for _, body in second.editions(unit)))
                for number, body in first.editions(unit):
                    at = [body for _, body in second.editions(unit)].index(body)
                    self.assertEqual(first.paper(unit, number), second.paper(unit, at))
        self.assertGreater(seen, 40)

    def test_a_changed_paper(self):
        registry = Registry(read_system(CLUB))
        body = (("draw", "hp", ((0, 1), (1, 3))),)
        self.assertEqual(registry.exchange("roll", body), 1)
        told = registry.paper("roll", 1)
        told[1][0][0][1].append((1, (0,)))
        told[1].pop()
        self.assertEqual(registry.paper("roll", 1), paper_for(registry.published(), "roll", body))
        self.assertTrue(is_paper_for(registry.published(), "roll", body, registry.paper("roll", 1)))

    def test_judged_against_the_published_system_alone(self):
        system = read_system(HEAD + "unit u { choose x { set a = 0 } or y { set a = 1 } } unit g { call u set b = a }")
        registry = Registry(system)
        zero, one = (("set", "a", ("num", 0)),), (("set", "a", ("num", 1)),)
        self.assertEqual(registry.exchange("u", zero), 1)
        # what stands for u brings less now, but g may bring what the published u brings
        body = (("choose", (("x", (("set", "a", ("num", 1)), ("set", "b", ("num", 1)))), ("y", (("call", "u"), ("set", "b", ("name", "a")))))),)
        self.assertEqual([registry.exchange("g", body), registry.exchange("u", one), registry.standing("u")], [1, 2, 2])
        self.assertEqual(registry.exchange("u", dict(system[1])["u"]), 0)
        with self.assertRaises(NotLet):
            registry.exchange("g", (("set", "a", ("num", 0)), ("set", "b", ("num", 1))))
        self.assertEqual((registry.standing("g"), len(registry.editions("g"))), (1, 2))


class ErrorTests(RegistryTests):
    def test_no_registries(self):
        for value in any_values():
            if not is_fair(value):
                self.refused(InvalidSystem, value, Registry, value) if not is_tree(value) else None
        self.raised(NotFair, {"reason": "call", "unit": "u", "word": "g"}, Registry, read_system(HEAD + "unit u { call g } unit g { }"))

    def test_units_and_numbers(self):
        registry = Registry(read_system(CLUB))
        registry.exchange("roll", (("draw", "hp", ((0, 1), (1, 3))),))
        for value in [*any_values(), "hp", "Roll", ["roll"], ("roll",)]:
            for call in (registry.standing, registry.editions):
                self.refused(InvalidUnit, value, call, value)
            for call in (registry.stand, registry.body_at, registry.code_at, registry.paper):
                self.refused(InvalidUnit, value, call, value, None)
            self.refused(InvalidUnit, value, registry.exchange, value, None)
            if value != ():
                self.refused(InvalidBody, value, registry.exchange, "game", value)
        for value in wrong_numbers(2):
            for call in (registry.stand, registry.body_at, registry.code_at, registry.paper):
                self.refused(InvalidEdition, value, call, "roll", value)
        self.refused(InvalidEdition, 1, registry.paper, "turn", 1)
        self.assertIsNone(registry.paper("turn", 0))

    def test_bodies(self):
        registry = Registry(read_system(CLUB))
        truthy = (("set", "hp", ("num", True)),)
        self.refused(InvalidBody, truthy, registry.exchange, "roll", truthy)
        self.raised(NotFair, {"reason": "call", "unit": "roll", "word": "turn"}, registry.exchange, "roll", (("call", "turn"),))
        self.raised(NotFair, {"reason": "name", "unit": "turn", "word": "mp"}, registry.exchange, "turn", (("set", "mp", ("num", 1)),))
        self.assertEqual([len(registry.editions(unit)) for unit in ("roll", "turn", "game")], [1, 1, 1])
        # True equals 1, but is no edition's
        same = Registry(read_system(HEAD + "unit g { set a = 1 }"))
        self.refused(InvalidBody, truthy, same.exchange, "g", truthy)

    def test_sixty_statements(self):
        fill = "set a = 1 " * 20
        registry = Registry(read_system(HEAD + f"unit u {{ {fill} }} unit v {{ {fill} }} unit g {{ {'set a = 1 ' * 10} }}"))
        body = (("set", "a", ("num", 1)),) * 20
        self.assertEqual(registry.exchange("g", body), 1)
        self.assertEqual(registry.exchange("u", body[:1]), 1)
        self.assertEqual(registry.exchange("u", body), 0)
        more = Registry(read_system(HEAD + f"unit u {{ {fill} }} unit v {{ {fill} }} unit w {{ set b = b }} unit g {{ {'set a = 1 ' * 10} }}"))
        self.assertEqual(more.exchange("u", body[:1]), 1)
        # whatever stands, the other units count as they are published
        self.refused(InvalidBody, body, more.exchange, "g", body)
        self.assertEqual(more.exchange("g", body[:19]), 1)
        self.assertEqual(more.stand("u", 0), None)
        self.assertFalse(is_tree((more.current()[0], (*more.current()[1], ("x", body[:1])))))

    def test_twelve_editions(self):
        registry = Registry(read_system("name a 6 name b 1 unit g { }".replace("name b 1 ", "")))
        same = [(("set", "a", ("+", ("name", "a"), ("num", 6 * at))),) for at in range(1, 13)]
        self.assertEqual([registry.exchange("g", body) for body in same[:11]], list(range(1, 12)))
        self.raised(TooMany, {"count": 13}, registry.exchange, "g", same[11])
        # ahead of what paper_for raises, and of NotLet; behind what with_body raises
        self.raised(TooMany, {"count": 13}, registry.exchange, "g", (("set", "a", ("num", 1)),))
        self.refused(InvalidBody, None, registry.exchange, "g", None)
        self.raised(NotFair, {"reason": "call", "unit": "g", "word": "g"}, registry.exchange, "g", (("call", "g"),))
        self.assertEqual([registry.exchange("g", same[4]), registry.exchange("g", ()), registry.standing("g")], [5, 0, 0])
        self.assertEqual(read_registry(registry.lines()), registry)

    def test_what_paper_for_raises(self):
        many = read_system(HEAD + "unit u { " + TWO * 7 + "} unit v { } unit g { }")
        for system, unit, body, error, attributes in [
            (many, "u", (), TooMany, {"count": 128}), (many, "v", (("call", "u"),), TooMany, {"count": 128}),
            (many, "g", (("call", "v"), ("call", "u")), TooMany, {"count": 128}),
            (read_system(GREAT + "unit ud { call uc }"), "ud", (), TooGreat, {"unit": "uc", "store": 1}),
            (read_system(HEAD + "name c 2 unit u { if [c = 1] and [a + b = 0] { " + tree(7) + "} else { } } unit g { }"),
             "g", (("call", "u"),), TooRich, {"unit": "u", "store": 1, "count": 7}),
        ]:
            registry = Registry(system)
            self.raised(error, attributes, registry.exchange, unit, body)
            self.raised(error, attributes, registry.exchange, unit, body)
            self.assertEqual((registry.editions(unit), registry.standing(unit)), ([(0, dict(system[1])[unit])], 0))
            # an equal body stands again all the same
            self.assertEqual(registry.exchange(unit, dict(system[1])[unit]), 0)
        registry = Registry(many)
        threes = read_system(HEAD + "unit u { " + THREE * 4 + "}")[1][0][1]
        self.raised(TooMany, {"count": 128}, registry.exchange, "u", threes)
        self.raised(TooMany, {"count": 81}, registry.exchange, "v", threes)


class LinesTests(RegistryTests):
    def test_there_and_back(self):
        random = Random(203)
        for _ in range(30):
            maker = HouseMaker(random, 4)
            registry = small_registry(random, tries=10, maker=maker)
            for unit, _ in registry.published()[1]:
                registry.stand(unit, random.randrange(len(registry.editions(unit))))
            for lines in (registry.lines(), tuple(registry.lines())):
                again = read_registry(lines=lines)
                self.assertIs(again.__class__, Registry)
                self.assertEqual(again.lines(), registry.lines())
                self.assertTrue(again == registry and registry == again)
                for unit, _ in registry.published()[1]:
                    self.assertEqual(again.editions(unit), registry.editions(unit))
                    self.assertEqual([again.paper(unit, number) for number, _ in again.editions(unit)],
                                     [registry.paper(unit, number) for number, _ in registry.editions(unit)])
            self.both_go_on(random, maker, registry, again)

    def both_go_on(self, random, maker, registry, again):
        for _ in range(5):
            unit = random.choice(registry.published()[1])[0]
            body = random.choice(some_bodies(random, maker, registry, unit))
            told = []
            for one in (registry, again):
                try:
                    told.append(one.exchange(unit, body))
                except PatchError as error:
                    told.append((error.__class__, vars(error)))
            self.assertEqual(*told)
            self.assertEqual(registry, again)

    def test_equal(self):
        system = read_system(CLUB)
        first, second = Registry(system), Registry(read_system(CLUB))
        self.assertTrue(first == second)
        body, other = (("draw", "hp", ((0, 1), (1, 3))),), (("draw", "hp", ((1, 1), (2, 2))),)
        first.exchange("roll", body)
        self.assertFalse(first == second)
        second.exchange("roll", body)
        self.assertTrue(first == second)
        first.stand("roll", 0)
        self.assertFalse(first == second)
        second.exchange("roll", dict(system[1])["roll"])
        self.assertTrue(first == second)
        first.exchange("roll", other)
        second.stand("roll", 1)
        second.exchange("roll", other)
        self.assertTrue(first == second)
        self.assertFalse(first == Registry(read_system(CLUB.replace("game", "play"))))
        for value in [*any_values(), Shelf(system), first.lines(), system]:
            self.assertFalse(first == value)
            self.assertFalse(value == first)
            self.assertTrue(first != value)

    def test_wrong_values(self):
        lines = Registry(read_system(CLUB)).lines()
        for value in [*any_values(), "\n".join(lines), {"a": lines}, [lines], [*lines, None], [None, *lines], [*lines, 1],
                      [lines[0].encode(), *lines[1:]], Registry(read_system(CLUB)), read_system(CLUB)]:
            self.refused(InvalidLines, value, read_registry, value)

    def test_wrong_lines(self):
        system = read_system(CLUB)
        registry = Registry(system)
        coin = (("draw", "hp", ((0, 1), (1, 3))),)
        registry.exchange("roll", coin)
        registry.exchange("game", (*dict(system[1])["game"], ("set", "hp", ("name", "hp"))))
        registry.exchange("roll", (("draw", "hp", ((1, 1), (2, 2))),))
        lines = registry.lines()
        self.assertEqual(read_registry(lines), registry)
        tried = []
        for at, line in enumerate(lines):
            tried += [lines[:at] + lines[at + 1:], lines[:at] + [line] + lines[at:], lines[:at] + [line + " "] + lines[at + 1:],
                      lines[:at] + [" " + line] + lines[at + 1:], lines[:at] + ["", *lines[at:]], lines[:at] + [line.upper()] + lines[at + 1:],
                      lines[:at] + [line.replace(" ", "  ", 1), *lines[at + 1:]], lines[:at] + [line + "\n", *lines[at + 1:]],
                      lines[:at] + [line.replace("1", "01"), *lines[at + 1:]], lines[:at] + [line.replace("1", "+1"), *lines[at + 1:]],
                      lines[:at] + [line.replace("roll", "rolls"), *lines[at + 1:]], lines[:at] + ["stand roll 0"] + lines[at:],
                      lines[:at] + ["edition 1"] + lines[at:], lines[:at] + [line + " x", *lines[at + 1:]]]
            if at:
                tried.append([*lines[:at - 1], line, lines[at - 1], *lines[at + 1:]])
        others = 0
        for wrong in tried:
            try:
                read = read_registry(wrong)
            except InvalidLines as error:
                self.assertIs(error.given, wrong)
            else:
                # the lines of another registry
                others += wrong != lines
                self.assertEqual(read.lines(), wrong)
                for unit, _ in read.published()[1]:
                    self.assertTrue(all(paper_for(read.published(), unit, body)[0] == "yes" for _, body in read.editions(unit)))
        self.assertLess(others, 20)

    def test_numbers_and_editions(self):
        registry = Registry(read_system(CLUB))
        lines = registry.lines()
        stands = lines[-3:]
        coin = ["unit roll {", "  draw hp 0 by 1 1 by 3", "}"]
        other = ["unit roll {", "  draw hp 1 by 1 2 by 2", "}"]
        right = [*lines[:-3], "edition 1", *coin, "edition 2", *other, *stands]
        self.assertEqual(read_registry(right).lines(), right)
        published = lines[lines.index("unit roll {"):lines.index("unit turn {")]
        never = ["unit roll {", "  draw hp 0 by 1 2 by 3", "}"]
        unfair = ["unit roll {", "  draw hp 0 by 1 0 by 3", "}"]
        calling = ["unit roll {", "  call turn", "}"]
        same = ["unit game {", "  call turn", "  call roll", "  set hp = hp", "}"]
        for middle in [
            ["edition 1", *coin, "edition 3", *other], ["edition 2", *coin], ["edition 0", *coin], ["edition 1", *coin, "edition 2", *coin],
            ["edition 1", *published], ["edition 1", *never], ["edition 1", *unfair], ["edition 1", *calling], ["edition 1"],
            ["edition 1", *coin, *other], ["edition 1", *other, "edition 1", *coin], ["edition 1", *same, "edition 1", *coin],
            ["edition", *coin], ["edition 1 ", *coin], ["edition 01", *coin], ["edition +1", *coin], ["edition -1", *coin],
            ["edition 1", "unit play {", "}"], ["edition 1", "name hp 3", *coin], ["edition 1", "unit roll { draw hp 0 by 1 1 by 3 }"],
        ]:
            wrong = [*lines[:-3], *middle, *stands]
            self.refused(InvalidLines, wrong, read_registry, wrong)
        for change in [
            ["stand roll 3", *stands[1:]], ["stand roll -1", *stands[1:]], ["stand roll None", *stands[1:]], stands[1:], stands[:2], [],
            [*stands, "stand game 0"], [stands[1], stands[0], stands[2]], ["stand play 0", *stands[1:]], [stands[0], stands[0], stands[2]],
            [*stands, "game 0 from 0"], [*stands, ""], ["stand roll", *stands[1:]], ["stand roll 0 0", *stands[1:]], ["stand  roll 0", *stands[1:]],
        ]:
            wrong = [*right[:-3], *change]
            self.refused(InvalidLines, wrong, read_registry, wrong)
        good = [*lines[:-3], "edition 1", *coin, "edition 1", *same, *stands]
        self.assertEqual(read_registry(good).lines(), good)

    def test_systems_that_are_none(self):
        for text in ["name a 2", "name a 7\nunit g {\n}", "name a 2\nunit g {\n  set b = 1\n}", "name a 2\nunit g {\n  call g\n}",
                     "name a 2\nname a 2\nunit g {\n}", "unit g {\n}", "", "name a 2\nunit g { }", "name a 2\n\nunit g {\n}"]:
            for wrong in (text.split("\n") + ["stand g 0"], [text, "stand g 0"], [text.replace("\n", " "), "stand g 0"]):
                self.refused(InvalidLines, wrong, read_registry, wrong)
        joined = ["name a 2\nunit g {\n}", "stand g 0"]
        self.refused(InvalidLines, joined, read_registry, joined)
        self.assertEqual(read_registry(["name a 2", "unit g {", "}", "stand g 0"]).published(), ((("a", 2),), (("g", ()),)))

    def test_beyond_the_bounds(self):
        many = ["name a 2", "unit u {", *[line for _ in range(7) for line in ("  choose x {", "  } or y {", "  }")], "}"]
        right = [*many, "unit g {", "}", "stand u 0", "stand g 0"]
        # edition 0 is not judged
        self.assertEqual(read_registry(right).lines(), right)
        for edition in [["unit u {", "}"], ["unit g {", "  call u", "}"]]:
            wrong = [*right[:-2], "edition 1", *edition, *right[-2:]]
            self.refused(InvalidLines, wrong, read_registry, wrong)

    def test_a_thirteenth_edition(self):
        registry = Registry(read_system("name a 6 unit g { }"))
        for at in range(1, 12):
            registry.exchange("g", (("set", "a", ("+", ("name", "a"), ("num", 6 * at))),))
        lines = registry.lines()
        self.assertEqual(read_registry(lines), registry)
        wrong = [*lines[:-1], "edition 12", "unit g {", "  set a = a + 72", "}", lines[-1]]
        self.refused(InvalidLines, wrong, read_registry, wrong)
        wrong = [*lines[:-1], "stand g 12"]
        self.refused(InvalidLines, wrong, read_registry, wrong)

    def test_texts_of_all_kinds(self):
        random = Random(204)
        for _ in range(40):
            system = TreeMaker(random).system()
            registry = Registry(system)
            self.assertEqual(registry.lines(), [*write_system(system).split("\n"), *[f"stand {unit} 0" for unit, _ in system[1]]])
            self.assertEqual(read_registry(registry.lines()), registry)


class GameTests(RegistryTests):
    def test_a_registry_is_a_shelf(self):
        registry = Registry(read_system(CLUB))
        game = Game(registry, 0)
        self.assertEqual([game.asks(), game.go(), game.asks(), game.go()], [("call", "turn"), None, ("loop",), None])
        coin = (("draw", "hp", ((0, 1), (1, 3))),)
        self.assertEqual([registry.exchange("roll", coin), game.go(), game.asks(), game.turn(1), game.frames()[-1][:2]],
                         [1, None, ("turn", 4), None, ("roll", 1)])
        self.assertEqual(game.used(), [("roll", 1, coin), *[(unit, 0, body) for unit, body in registry.published()[1][1:]]])


class SpeedTests(RegistryTests):
    def test_exchanges(self):
        registry = Registry(read_system(CLUB))
        bodies = [(("draw", "hp", ((0, 1), (1, weight))),) for weight in (3, 4)]
        for body in bodies:
            try:
                registry.exchange("roll", body)
            except NotLet:
                pass
        begun = time.perf_counter()
        for _ in range(50):
            for body in [*bodies, dict(registry.published()[1])["roll"], (("set", "hp", ("num", 2)),)]:
                try:
                    registry.exchange("roll", body)
                except NotLet:
                    pass
        self.assertLess((time.perf_counter() - begun) / 200, 0.01)


if __name__ == "__main__":
    unittest.main()
