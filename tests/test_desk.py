import time
import unittest
from fractions import Fraction
from random import Random

from fairpatch.checks import is_fair, with_body
from fairpatch.desk import Desk, read_desk
from fairpatch.errors import (
    InvalidBody, InvalidLines, InvalidName, InvalidSystem, InvalidText, NoSystem, NotFair, NotLet, NoThing, NothingToUndo,
    PatchError, TooGreat, TooMany, TooRich,
)
from fairpatch.house import House
from fairpatch.pictures import go_on, picture
from fairpatch.registry import Registry
from fairpatch.stands import paper_for
from fairpatch.texts import is_tree, read_system, write_system
from fairpatch.worth import worth
from tests.houses import CLUB, LOOP, HouseMaker, small_registry, some_answer, some_bodies, some_deed, try_exchange
from tests.judges import all_new, fraction
from tests.samples import any_values
from tests.test_forward import GREAT
from tests.test_picks import THREE, TWO
from tests.test_worth import later, some_payoff

RULES = "name hp 2 unit roll { choose low { set hp = 0 } or high { set hp = 1 } } unit game { call roll }"
FAIR = "name hp 2 unit roll { draw hp 0 by 1 1 by 1 } unit game { call roll }"
LOW = "name hp 2 unit roll { set hp = 0 } unit game { call roll }"
HIGH = "name hp 2 unit roll { set hp = 1 } unit game { call roll }"
ROOM = "name hp 2 unit roll { set hp = 1 } unit game { call roll choose x { } or y { set hp = 1 } }"
BITS = "name a 2 name b 2 "


def body_in(text, unit):
    return dict(read_system(text)[1])[unit]


class Twin:
    """A desk by plain lists: for each name the registry's lines are those of its own registry, and the patches."""

    def __init__(self):
        self.registries, self.patches = {}, {}

    def lay(self, name, text):
        self.registries[name], self.patches[name] = Registry(read_system(text)), []

    def patch(self, name, text):
        registry, done = self.registries[name], []
        for unit, body in read_system(text)[1]:
            stood = registry.standing(unit)
            if body != registry.body_at(unit, stood):
                done.append((unit, stood, registry.exchange(unit, body)))
        if done:
            self.patches[name] = [*self.patches[name], [(unit, stood) for unit, stood, _ in done]][-8:]
        return [(unit, number) for unit, _, number in done]

    def undo(self, name):
        for unit, number in self.patches[name].pop():
            self.registries[name].stand(unit, number)


def own_lines(desk, patches):
    lines = []
    for name in sorted(patches):
        lines += [f"table {name}", *picture(desk.house_of(name))]
        lines += ["patch " + " ".join(f"{unit} {number}" for unit, number in one) for one in patches[name]]
    return lines


class DeskTests(unittest.TestCase):
    def refused(self, error, given, call, *arguments):
        with self.assertRaises(error) as caught:
            call(*arguments)
        self.assertIs(caught.exception.given, given)

    def raised(self, error, attributes, call, *arguments):
        with self.assertRaises(error) as caught:
            call(*arguments)
        self.assertEqual(vars(caught.exception), attributes)

    def stays(self, desk, error, attributes, call, *arguments):
        """A refused call changes nothing."""
        before = desk.lines()
        self.raised(error, attributes, call, *arguments)
        self.assertEqual(desk.lines(), before)


class TableTests(DeskTests):
    def test_empty(self):
        desk = Desk()
        self.assertEqual((desk.tables(), len(desk), desk.lines(), "club" in desk), ([], 0, [], False))
        self.assertTrue(desk == Desk())
        self.assertEqual(read_desk([]), desk)
        self.assertEqual(read_desk(()), desk)

    def test_names(self):
        desk = Desk()
        for name in ("den", "club", "attic"):
            self.assertIsNone(desk.lay(name=name, text=RULES))
        self.assertEqual((desk.tables(), len(desk)), (["attic", "club", "den"], 3))
        all_new(self, desk.tables(), desk.tables())
        desk.tables().clear()
        self.assertEqual(len(desk.tables()), 3)
        for value in [*any_values(), "Club", "clubs", ("club",), ["club"]]:
            self.assertIs(value in desk, False)
        self.assertIs("club" in desk, True)
        house = desk.house_of(name="club")
        self.assertIsInstance(house, House)
        self.assertIs(house, desk.house_of("club"))
        self.assertIsInstance(house.registry, Registry)
        self.assertEqual(house.registry.published(), read_system(RULES))
        self.assertIsNone(desk.drop(name="den"))
        self.assertIsNone(desk.rename(name="club", new="bar"))
        self.assertEqual(desk.tables(), ["attic", "bar"])
        self.assertIs(desk.house_of("bar"), house)
        self.assertIsNone(desk.lay("club", LOW))
        self.assertEqual(desk.house_of("club").registry.published(), read_system(LOW))

    def test_no_thing_comes_first(self):
        desk = Desk()
        desk.lay("club", RULES)
        for value in [*any_values(), "den", "Club", ["club"]]:
            for call, last in [(desk.drop, ()), (desk.rename, (None,)), (desk.twin, (None,)), (desk.house_of, ()), (desk.patch, (None,)),
                               (desk.preview, (None,)), (desk.undo, ()), (desk.text, ())]:
                with self.assertRaises(NoThing) as caught:
                    call(value, *last)
                self.assertIs(caught.exception.name, value)
        self.assertEqual(desk.tables(), ["club"])

    def test_new_names(self):
        desk = Desk()
        desk.lay("club", RULES), desk.lay("den", RULES)
        for value in [*[one for one in any_values() if one != "a"], "club", "den", "Club", "unit", "toolongaa", "club1", ["bar"]]:
            self.refused(InvalidName, value, desk.lay, value, None)
            self.refused(InvalidName, value, desk.rename, "club", value)
            self.refused(InvalidName, value, desk.twin, "club", value)
        self.assertEqual(desk.tables(), ["club", "den"])

    def test_texts(self):
        desk = Desk()
        for value in any_values():
            if not isinstance(value, str):
                self.refused(InvalidText, value, desk.lay, "club", value)
        self.raised(NoSystem, {"line": 1, "column": 1}, desk.lay, "club", "")
        self.raised(NotFair, {"reason": "call", "unit": "g", "word": "g"}, desk.lay, "club", "name a 2 unit g { call g }")
        self.assertEqual(len(desk), 0)

    def test_eight_tables(self):
        desk = Desk()
        for name in "bcdefgh":
            desk.lay(name, RULES)
        desk.twin("b", "a")
        self.assertEqual(desk.tables(), list("abcdefgh"))
        self.raised(TooMany, {"count": 9}, desk.lay, "i", RULES)
        self.raised(TooMany, {"count": 9}, desk.twin, "a", "i")
        self.refused(InvalidName, "a", desk.lay, "a", None)
        self.refused(InvalidName, "a", desk.twin, "b", "a")
        self.raised(NoSystem, {"line": 1, "column": 1}, desk.lay, "i", "")
        self.raised(NotFair, {"reason": "call", "unit": "g", "word": "g"}, desk.lay, "i", "name a 2 unit g { call g }")
        with self.assertRaises(NoThing):
            desk.twin("i", "a")
        self.assertIsNone(desk.rename("a", "i"))
        self.assertIsNone(desk.drop("i"))
        self.assertIsNone(desk.lay("a", FAIR))
        self.assertEqual(read_desk(desk.lines()), desk)

    def test_twins(self):
        desk = Desk()
        desk.lay("club", RULES)
        first = desk.house_of("club")
        first.begin(0)
        desk.patch("club", FAIR)
        first.step(0), first.step(0, 1)
        self.assertIsNone(desk.twin(name="club", new="den"))
        second = desk.house_of("den")
        self.assertIsNot(first, second)
        self.assertIsNot(first.registry, second.registry)
        self.assertEqual(picture(first), picture(second))
        self.assertEqual([line.replace("club", "den") for line in desk.lines()[:len(desk.lines()) // 2]], desk.lines()[len(desk.lines()) // 2:])
        desk.patch("den", HIGH), second.step(0), second.begin(1)
        self.assertEqual((first.asks(0), first.games(), first.registry.standing("roll")), (("back", "roll"), [0], 1))
        desk.undo("club")
        self.assertEqual((first.registry.standing("roll"), second.registry.standing("roll")), (0, 2))
        desk.undo("den"), desk.undo("den")
        self.assertEqual(second.registry.standing("roll"), 0)
        self.raised(NothingToUndo, {}, desk.undo, "den")


class PatchTests(DeskTests):
    def test_against_lists(self):
        random, seen = Random(281), {"patch": 0, "err": 0, "undo": 0, "all": 0}
        for _ in range(40):
            maker = HouseMaker(random, 4)
            desk, twin = Desk(), Twin()
            registry = small_registry(random, maker=maker, tries=0, units=random.randrange(1, 5))
            text = write_system(registry.published())
            desk.lay("club", text), twin.lay("club", text)
            for _ in range(14):
                self.one_deed(random, maker, desk, twin, seen)
                own = twin.registries["club"]
                self.assertEqual(desk.house_of("club").registry, own)
                self.assertEqual(desk.lines(), own_lines(desk, twin.patches))
                self.assertEqual(desk.text(name="club"), write_system(own.current()))
                self.assertEqual(desk.patch("club", desk.text("club")), [])
            self.assertEqual(read_desk(desk.lines()), desk)
        self.assertGreater(min(seen.values()), 10)

    def one_deed(self, random, maker, desk, twin, seen):
        registry, own = desk.house_of("club").registry, twin.registries["club"]
        kind = random.random()
        if kind < 0.2:
            if twin.patches["club"]:
                self.assertIsNone(desk.undo(name="club"))
                twin.undo("club")
                seen["undo"] += 1
            else:
                self.raised(NothingToUndo, {}, desk.undo, "club")
        elif kind < 0.3:
            unit = random.choice(own.published()[1])[0]
            number = random.randrange(len(own.editions(unit)))
            registry.stand(unit, number), own.stand(unit, number)
        elif kind < 0.4:
            seed = random.random()
            try_exchange(Random(seed), HouseMaker(Random(seed), 3), registry)
            try_exchange(Random(seed), HouseMaker(Random(seed), 3), own)
        else:
            system, units = own.current(), [unit for unit, _ in own.published()[1]]
            changed = {unit: random.choice(some_bodies(random, maker, own, unit)) for unit in random.sample(units, random.randrange(1, len(units) + 1))}
            told = (system[0], tuple((unit, changed.get(unit, body)) for unit, body in system[1]))
            if not is_fair(told):
                return
            self.patch(desk, twin, write_system(told), told, seen)

    def patch(self, desk, twin, text, told, seen):
        own = twin.registries["club"]
        units = [(unit, body) for unit, body in told[1] if body != own.body_at(unit, own.standing(unit))]
        expected = error = None
        for unit, body in units:
            try:
                go_on(picture(House(own))).registry.exchange(unit, body)
            except PatchError as caught:
                error = error or caught
        papers = []
        for unit, body in units:
            known = [one for _, one in own.editions(unit)]
            try:
                with_body(own.published(), unit, body)
                papers.append((unit, None if body in known else paper_for(own.published(), unit, body)))
            except PatchError as caught:
                papers = caught
                break
        if isinstance(papers, PatchError):
            self.stays(desk, papers.__class__, vars(papers), desk.preview, "club", text)
        else:
            before = desk.lines()
            preview = desk.preview(name="club", text=text)
            self.assertEqual(preview, papers)
            all_new(self, preview, desk.preview("club", text))
            self.assertEqual(desk.lines(), before)
        if error is None:
            expected = twin.patch("club", text)
            self.assertEqual(desk.patch(name="club", text=text), expected)
            seen["patch"] += bool(expected)
            seen["all"] += len(expected) > 1
        else:
            seen["err"] += 1
            self.stays(desk, error.__class__, vars(error), desk.patch, "club", text)

    def test_other_systems(self):
        desk = Desk()
        desk.lay("club", RULES)
        for text in ["name hp 3 unit roll { } unit game { }", "name mp 2 unit roll { } unit game { }", "name hp 2 name b 2 unit roll { } unit game { }",
                     "name hp 2 unit game { } unit roll { }", "name hp 2 unit roll { }", "name hp 2 unit roll { } unit game { } unit more { }",
                     "name hp 2 unit roll { } unit games { }"]:
            for call in (desk.patch, desk.preview):
                self.stays(desk, InvalidSystem, {"given": read_system(text)}, call, "club", text)
        for call in (desk.patch, desk.preview):
            for value in any_values():
                if not isinstance(value, str):
                    self.refused(InvalidText, value, call, "club", value)
            self.stays(desk, NoSystem, {"line": 1, "column": 10}, call, "club", "name hp 2")
            self.stays(desk, NotFair, {"reason": "call", "unit": "roll", "word": "game"}, call, "club", "name hp 2 unit roll { call game } unit game { }")
            # what is not fair is told ahead of other names, and of what an exchange would raise for a unit ahead
            self.stays(desk, NotFair, {"reason": "name", "unit": "roll", "word": "x"}, call, "club", "name mp 2 unit roll { set x = 1 }")
            self.stays(desk, NotFair, {"reason": "call", "unit": "game", "word": "game"}, call, "club", "name hp 2 unit roll { while yes { } } unit game { call game }")
            self.stays(desk, NotFair, {"reason": "twice", "unit": None, "word": "hp"}, call, "club", "name hp 2 name hp 2 unit roll { } unit game { }")
        two = Desk()
        two.lay("den", "name a 2 name b 2 unit u { }")
        self.raised(InvalidSystem, {"given": read_system("name b 2 name a 2 unit u { }")}, two.patch, "den", "name b 2 name a 2 unit u { }")

    def test_all_or_none(self):
        desk = Desk()
        desk.lay("club", ROOM)
        # roll may not bring 0, but game may leave out its choose
        for text in ["name hp 2 unit roll { set hp = 0 } unit game { call roll }", "name hp 2 unit roll { set hp = 1 set hp = hp } unit game { set hp = 0 }"]:
            before = desk.lines()
            with self.assertRaises(NotLet):
                desk.patch("club", text)
            self.assertEqual(desk.lines(), before)
        told = desk.preview("club", "name hp 2 unit roll { set hp = 0 } unit game { set hp = 0 }")
        self.assertEqual([(unit, paper[0]) for unit, paper in told], [("roll", "no"), ("game", "no")])
        self.assertEqual(desk.patch("club", "name hp 2 unit roll { set hp = 1 set hp = hp } unit game { call roll }"), [("roll", 1), ("game", 1)])
        self.assertEqual(desk.lines()[-1], "patch roll 0 game 0")
        self.assertEqual(desk.preview("club", ROOM), [("roll", None), ("game", None)])
        self.assertEqual(desk.patch("club", ROOM), [("roll", 0), ("game", 0)])
        self.assertEqual(desk.preview("club", ROOM), [])

    def test_sixty_statements(self):
        fill = "set a = 1 " * 19
        rules = BITS + f"unit u {{ {fill} set a = 1 }} unit v {{ {fill} set a = 1 }} unit w {{ {fill} set a = 1 }} unit g {{ }}"
        desk = Desk()
        desk.lay("club", rules)
        less = BITS + f"unit u {{ {fill} }} unit v {{ {fill} set a = 1 }} unit w {{ {fill} set a = 1 }} unit g {{ }}"
        self.assertEqual(desk.patch("club", less), [("u", 1)])
        more = BITS + f"unit u {{ {fill} }} unit v {{ {fill} set a = 1 }} unit w {{ {fill} set a = 1 }} unit g {{ set a = a }}"
        for call in (desk.patch, desk.preview):
            self.stays(desk, InvalidBody, {"given": body_in(more, "g")}, call, "club", more)
        # what stands may have more than sixty statements together
        desk = Desk()
        desk.lay("club", less)
        registry = desk.house_of("club").registry
        self.assertEqual(registry.exchange("g", (("set", "b", ("name", "b")),)), 1)
        self.assertEqual(registry.exchange("u", (("set", "a", ("num", 1)),) * 20), 1)
        self.assertEqual(registry.stand("g", 1), None)
        current = registry.current()
        self.assertFalse(is_tree(current))
        self.raised(InvalidSystem, {"given": current}, desk.text, "club")

    def test_errors_of_exchange(self):
        desk = Desk()
        rules = BITS + "unit u { " + TWO * 7 + "} unit v { } unit g { }"
        desk.lay("club", rules)
        bad = BITS + "unit u { } unit v { set a = 1 } unit g { }"
        for call in (desk.patch, desk.preview):
            self.stays(desk, TooMany, {"count": 128}, call, "club", bad)
            self.stays(desk, TooMany, {"count": 81}, call, "club", BITS + "unit u { " + TWO * 7 + "} unit v { " + THREE * 4 + "} unit g { }")
        # NotLet does not hide an error of a unit behind it in a preview
        both = BITS + "unit u { " + TWO * 7 + "} unit v { set a = 1 } unit g { call u }"
        with self.assertRaises(NotLet):
            desk.patch("club", both)
        self.stays(desk, TooMany, {"count": 128}, desk.preview, "club", both)
        great = Desk()
        great.lay("club", GREAT + "unit ud { }")
        self.stays(great, TooGreat, {"unit": "uc", "store": 1}, great.preview, "club", GREAT + "unit ud { call uc }")

    def test_twelve_editions(self):
        desk = Desk()
        desk.lay("club", "name a 6 unit u { } unit g { call u }")
        for at in range(1, 12):
            self.assertEqual(desk.patch("club", f"name a 6 unit u {{ set a = a + {6 * at} }} unit g {{ call u }}"), [("u", at)])
        more = "name a 6 unit u { set a = a + 72 } unit g { call u }"
        self.stays(desk, TooMany, {"count": 13}, desk.patch, "club", more)
        self.assertEqual([(unit, paper[0]) for unit, paper in desk.preview("club", more)], [("u", "yes")])
        self.assertEqual(desk.patch("club", "name a 6 unit u { set a = a + 12 } unit g { call u }"), [("u", 2)])
        self.stays(desk, TooMany, {"count": 13}, desk.patch, "club", "name a 6 unit u { set a = 1 } unit g { call u }")

    def test_undo(self):
        desk = Desk()
        desk.lay("club", RULES)
        registry = desk.house_of("club").registry
        self.raised(NothingToUndo, {}, desk.undo, "club")
        self.assertEqual(desk.patch("club", RULES), [])
        self.raised(NothingToUndo, {}, desk.undo, "club")
        texts = [FAIR, LOW, HIGH, RULES, LOW, FAIR, HIGH, LOW, RULES]
        numbers = [desk.patch("club", text)[0][1] for text in texts]
        self.assertEqual(numbers, [1, 2, 3, 0, 2, 1, 3, 2, 0])
        self.assertEqual([line for line in desk.lines() if line.startswith("patch")], [f"patch roll {number}" for number in numbers[:8]])
        for expected in numbers[7::-1]:
            # whatever stood since
            registry.stand("roll", 3), registry.exchange("roll", body_in(FAIR, "roll"))
            self.assertIsNone(desk.undo("club"))
            self.assertEqual(registry.standing("roll"), expected)
        # the first of nine is forgotten for good
        self.raised(NothingToUndo, {}, desk.undo, "club")
        self.assertEqual(len(registry.editions("roll")), 4)

    def test_games_are_not_taken_back(self):
        desk = Desk()
        desk.lay("club", RULES)
        house = desk.house_of("club")
        house.begin(0)
        desk.patch("club", FAIR)
        house.step(0), house.step(0, 1)
        before = house.lines(0)
        desk.undo("club")
        self.assertEqual((house.lines(0), house.frames(0)), (before, [("game", 0, ((0,), 0)), ("roll", 1, 1)]))
        self.assertEqual(house.registry.standing("roll"), 0)


class LinesTests(DeskTests):
    def desk(self):
        desk = Desk()
        desk.lay("den", LOOP), desk.lay("club", RULES)
        house = desk.house_of("club")
        house.begin(0)
        desk.patch("club", FAIR), desk.patch("club", HIGH)
        house.step(0)
        desk.house_of("den").begin(0)
        desk.house_of("den").step(0), desk.house_of("den").move(0, 0, ((0, 0, 0), 0))
        return desk

    def test_sign_by_sign(self):
        desk = self.desk()
        self.assertEqual(desk.lines(), [
            "table club", "name hp 2", "unit roll {", "  choose low {", "    set hp = 0", "  } or high {", "    set hp = 1", "  }", "}", "unit game {",
            "  call roll", "}", "edition 1", "unit roll {", "  draw hp 0 by 1 1 by 1", "}", "edition 2", "unit roll {", "  set hp = 1", "}", "stand roll 2",
            "stand game 0", "game 0 from 0", "call game 0", "call roll 2", "patch roll 0", "patch roll 1", "table den", "name hp 3", "unit game {",
            "  while hp < 2 {", "    choose up {", "      set hp = hp + 1", "    } or wait {", "    }", "  }", "}", "stand game 0", "game 0 from 0",
            "call game 0", "loop", "move game 0 0.0.0"])
        all_new(self, desk.lines(), desk.lines())
        for lines in (desk.lines(), tuple(desk.lines())):
            again = read_desk(lines=lines)
            self.assertIs(again.__class__, Desk)
            self.assertEqual(again.lines(), desk.lines())
            self.assertTrue(again == desk and desk == again)

    def test_words_of_the_lines(self):
        """Names, units and labels that are the words with which lines begin."""
        rules = "name from 2 name turn 2 unit move { choose end { set from = 0 } or move { set from = 1 } } unit stand { call move } " \
            "unit edition { while from = 0 { call stand } } unit patch { call edition } unit table { call patch set turn = from } " \
            "unit game { call table choose loop { } or turn { draw turn 0 by 1 1 by 2 } or back { call move } }"
        desk, random = Desk(), Random(285)
        desk.lay("table", rules), desk.lay("patch", rules)
        house = desk.house_of("table")
        house.begin(0), house.begin(1)
        self.assertEqual(desk.patch("table", rules.replace("choose end { set from = 0 } or move { set from = 1 }", "set from = 1")), [("move", 1)])
        self.assertEqual(desk.patch("table", rules.replace("call stand }", "call stand call stand }").replace("call patch set", "call edition set")),
                         [("move", 0), ("edition", 1), ("table", 1)])
        for game in house.games():
            while house.asks(game)[0] != "over":
                if house.asks(game)[0] == "choose":
                    house.move(game, 0, house.frames(game)[-1][2])
                house.step(game, some_answer(random, house.asks(game)))
                self.assertEqual(read_desk(desk.lines()), desk)
        self.assertIn("move move 0 0", desk.lines())
        self.assertIn("choose move", desk.lines())
        self.assertEqual([line for line in desk.lines() if line.startswith("patch")], ["patch move 0", "patch move 1 edition 0 table 0"])
        desk.twin("table", "stand"), desk.undo("stand")
        self.assertEqual(read_desk(desk.lines()).lines(), desk.lines())

    def test_read_goes_on(self):
        random = Random(282)
        for _ in range(25):
            desk, maker = Desk(), HouseMaker(random, 4)
            for name in random.sample(["a", "b", "c", "club"], 2):
                registry = small_registry(random, maker=maker, tries=0)
                desk.lay(name, write_system(registry.published()))
                self.deeds(random, desk, name, 8)
            again = read_desk(desk.lines())
            self.assertEqual(again, desk)
            seed = random.random()
            for one in (desk, again):
                own = Random(seed)
                for name in one.tables():
                    self.deeds(own, one, name, 6)
            self.assertEqual(again, desk)
            self.assertEqual(again.lines(), desk.lines())
            name = desk.tables()[0]
            self.deeds(random, again, name, 4)
            again.drop(name)
            self.assertFalse(again == desk)

    def deeds(self, random, desk, name, many):
        house = desk.house_of(name)
        for _ in range(many):
            kind = random.random()
            if kind < 0.3 and len(house.games()) < 3:
                house.begin(random.randrange(house.registry.space.never))
            elif kind < 0.6 and house.games():
                some_deed(random, house, random.choice(house.games()))
            elif kind < 0.8:
                registry = house.registry
                unit = random.choice(registry.published()[1])[0]
                body = random.choice(some_bodies(random, HouseMaker(random, 3), registry, unit))
                told = (registry.published()[0], tuple((one, body if one == unit else old) for one, old in registry.current()[1]))
                if is_fair(told):
                    try:
                        desk.patch(name, write_system(told))
                    except PatchError:
                        pass
            else:
                try:
                    desk.undo(name)
                except NothingToUndo:
                    pass

    def test_patches_that_none_can_have_left(self):
        head = ["table club", *Registry(read_system(FAIR)).lines()]
        self.assertEqual(read_desk(head).lines(), head)
        for patches in [["patch roll 0"], ["patch game 0"], ["patch roll 0 game 0"], ["patch roll 0"] * 8]:
            desk = read_desk([*head, *patches])
            self.assertEqual(desk.lines(), [*head, *patches])
            for _ in patches:
                self.assertIsNone(desk.undo("club"))
            self.raised(NothingToUndo, {}, desk.undo, "club")
        for patches in [
            ["patch"], ["patch "], ["patch roll"], ["patch roll 1"], ["patch roll -1"], ["patch roll 00"], ["patch roll None"], ["patch roll 0 "],
            ["patch  roll 0"], ["patch roll  0"], ["patch game 0 roll 0"], ["patch roll 0 roll 0"], ["patch play 0"], ["patch roll 0 game"],
            ["patch roll 0"] * 9, ["patch roll 0", ""], ["patch roll 0", "game 0 from 0", "call game 0"], ["patches roll 0"], [" patch roll 0"],
            ["patch roll 0 game 0 0"], ["patch roll 0", "stand roll 0"], ["patch roll True"],
        ]:
            wrong = [*head, *patches]
            self.refused(InvalidLines, wrong, read_desk, wrong)

    def test_tables_that_are_none(self):
        lines = Registry(read_system(FAIR)).lines()
        many = [line for name in "abcdefgh" for line in [f"table {name}", *lines]]
        self.assertEqual(len(read_desk(many)), 8)
        for wrong in [
            [*many, "table i", *lines], lines, ["table club"], ["table", *lines], ["table ", *lines], ["table Club", *lines], ["table unit", *lines],
            ["table club ", *lines], ["table  club", *lines], ["table a b", *lines], ["tables club", *lines], ["table club", *lines, "table club", *lines],
            ["table den", *lines, "table club", *lines], ["", "table club", *lines], ["table club", *lines, ""], ["table club", *lines[1:]],
            ["table club", *lines, "game 0 from 2", "call game 0"], ["table toolongaa", *lines], ["patch roll 0", "table club", *lines],
            ["table club", *lines, "game 0 from 0"], ["table club", "patch roll 0", *lines],
        ]:
            self.refused(InvalidLines, wrong, read_desk, wrong)

    def test_spoiled(self):
        random, lines, others = Random(283), self.desk().lines(), 0
        for _ in range(400):
            at, to = random.randrange(len(lines)), random.randrange(len(lines))
            line = lines[at]
            changed = random.choice([
                [*lines[:at], *lines[at + 1:]], [*lines[:at], line, *lines[at:]], [*lines[:at], lines[to], *lines[at + 1:]], lines[:at],
                [*lines[:at], line.replace("0", "1", 1), *lines[at + 1:]], [*lines[:at], line + " ", *lines[at + 1:]],
                [*lines[:at], line.replace(" 0", " 00", 1), *lines[at + 1:]], [*lines[:at], lines[to], *lines[at:]]])
            try:
                again = read_desk(changed)
            except InvalidLines as error:
                self.assertIs(error.given, changed)
            else:
                others += changed != lines
                self.assertEqual(again.lines(), changed)
        self.assertGreater(others, 5)

    def test_values_of_all_kinds(self):
        lines = self.desk().lines()
        for value in [*any_values(), "\n".join(lines), {"a": lines}, [lines], [*lines, None], [None, *lines], self.desk(), [1, *lines]]:
            if value != [] and value != ():
                self.refused(InvalidLines, value, read_desk, value)
            self.assertFalse(Desk() == value and not isinstance(value, Desk))
            self.assertFalse(value == Desk())

    def test_equal(self):
        first, second = self.desk(), self.desk()
        self.assertTrue(first == second)
        first.patch("club", FAIR)
        self.assertTrue(first != second)
        first.undo("club")
        self.assertTrue(first == second)
        first.rename("den", "a")
        self.assertFalse(first == second)
        first.rename("a", "den")
        self.assertTrue(first == second)
        second.house_of("den").step(0, "wait")
        self.assertFalse(first == second)
        for value in [*any_values(), first.lines(), House(Registry(read_system(RULES)))]:
            self.assertFalse(first == value)


class NeverMoreTests(DeskTests):
    def test_whatever_is_done(self):
        """Worths never rise in the mean: all labels and all parts are looked at, deeds between change nothing."""
        random, seen = Random(284), 0
        while seen < 120:
            maker, desk = HouseMaker(random, 6), Desk()
            registry = small_registry(random, maker=maker, tries=0, units=random.randrange(2, 4))
            desk.lay("club", write_system(registry.published()))
            never = registry.space.never
            desk.house_of("club").begin(random.randrange(never))
            payoff, name = some_payoff(random, never), "club"
            try:
                now = fraction(worth(desk.house_of(name), 0, payoff))
                for _ in range(10):
                    name = self.deeds(random, maker, desk, name)
                    house = desk.house_of(name)
                    self.assertEqual(fraction(worth(house, 0, payoff)), now)
                    asked = house.asks(0)
                    if asked[0] == "over":
                        self.assertEqual(now, payoff[asked[1]])
                        break
                    answers = asked[1] if asked[0] == "choose" else range(asked[1]) if asked[0] == "turn" else [None]
                    means = [fraction(worth(later(house, 0, answer), 0, payoff)) for answer in answers]
                    self.assertLessEqual(Fraction(sum(means), len(means)) if asked[0] == "turn" else max(means), now)
                    house.step(0, some_answer(random, asked))
                    now = fraction(worth(house, 0, payoff))
                    seen += 1
            except (TooMany, TooRich, TooGreat):
                continue

    def deeds(self, random, maker, desk, name):
        registry = desk.house_of(name).registry
        unit = random.choice(registry.published()[1])[0]
        body = random.choice(some_bodies(random, maker, registry, unit))
        told = (registry.published()[0], tuple((one, body if one == unit else old) for one, old in registry.current()[1]))
        for deed in [lambda: desk.patch(name, write_system(told)), lambda: try_exchange(random, maker, registry), lambda: desk.undo(name)]:
            if random.random() < 0.4:
                try:
                    deed()
                except PatchError:
                    pass
        if random.random() < 0.3:
            other = "den" if name == "club" else "club"
            desk.rename(name, other) if random.random() < 0.5 else (desk.twin(name, other), desk.drop(name))
            return other
        return name


class SpeedTests(DeskTests):
    def test_desks(self):
        desk = Desk()
        for name in "abcdefgh":
            desk.lay(name, CLUB)
            for game in range(5):
                desk.house_of(name).begin(0)
                for _ in range(3):
                    desk.house_of(name).step(game)
            desk.patch(name, CLUB.replace("choose low { draw hp 0 by 1 1 by 3 } or high { draw hp 1 by 1 2 by 2 }", "draw hp 0 by 1 1 by 3"))
        begun = time.perf_counter()
        self.assertEqual(read_desk(desk.lines()), desk)
        self.assertLess(time.perf_counter() - begun, 1.0)


if __name__ == "__main__":
    unittest.main()
