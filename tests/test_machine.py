import time
import unittest
from random import Random

from fairpatch.checks import with_body
from fairpatch.compiler import compiled
from fairpatch.errors import (
    InvalidAnswer, InvalidBody, InvalidEdition, InvalidPart, InvalidRow, InvalidStore, InvalidSystem, InvalidUnit, NotAsked,
    NotFair, PatchError, TooMany,
)
from fairpatch.machine import Game, Shelf
from fairpatch.plain import play
from fairpatch.ratios import Ratio
from fairpatch.texts import is_tree, read_system
from tests.codes import compiled_by_labels
from tests.judges import all_new
from tests.samples import TreeMaker, any_values
from tests.small import SmallMaker
from tests.test_stands import patches
from tests.walks import Walk, part_at

HEAD = "name a 3 name b 2 "


class Twin:
    """A shelf by plain lists: the bodies of each unit, and the numbers that stand."""

    def __init__(self, system):
        self.system = system
        self.bodies = {unit: [body] for unit, body in system[1]}
        self.stands = {unit: 0 for unit, _ in system[1]}

    def exchange(self, unit, body):
        if body not in self.bodies[unit]:
            self.bodies[unit].append(body)
        self.stands[unit] = self.bodies[unit].index(body)
        return self.stands[unit]


class TextGame:
    """A game that walks over the texts of editions: frames with places, and the lines of what was done."""

    def __init__(self, twin, store):
        self.twin, self.store, self.began, self.frames, self.lines, self.used = twin, store, store, [], [], set()
        self.begin(twin.system[1][-1][0])
        self.edition = self.frames[0][1]

    def walk(self, unit, number):
        return Walk(self.twin.system[0], self.twin.bodies[unit][number])

    def begin(self, unit):
        number = self.twin.stands[unit]
        self.frames.append([unit, number, None])
        self.used.add((unit, number))
        self.come(self.walk(unit, number).first(self.store))

    def come(self, place):
        self.frames[-1][2] = place
        self.store = place[1] if isinstance(place, tuple) else place

    def statement(self):
        unit, number, place = self.frames[-1]
        return part_at(self.twin.bodies[unit][number], place[0]) if isinstance(place, tuple) else ("back", unit)

    def asks(self):
        if not self.frames:
            return ("over", self.store)
        statement = self.statement()
        if statement[0] == "choose":
            return ("choose", tuple(label for label, _ in statement[1]))
        if statement[0] == "draw":
            return ("turn", sum(weight for _, weight in statement[2]))
        return {"while": ("loop",), "call": statement[:2], "back": statement}[statement[0]]

    def step(self, answer):
        asked, statement = self.asks(), self.statement()
        unit, number, place = self.frames[-1]
        walk = self.walk(unit, number)
        if asked[0] == "choose":
            self.lines.append(f"choose {answer}")
            self.come(walk.place(walk.inside(place[0], asked[1].index(answer)), place[1]))
        elif asked[0] == "turn":
            self.lines.append(f"turn {answer} of {asked[1]}")
            value = [value for value, weight in statement[2] for _ in range(weight)][answer]
            self.come(walk.behind(place[0], walk.given(place[1], statement[1], value)))
        elif asked[0] == "loop":
            self.lines.append("loop")
            self.come(walk.place(walk.inside(place[0], 0), place[1]))
        elif asked[0] == "call":
            self.lines.append(f"call {asked[1]} {self.twin.stands[asked[1]]}")
            self.begin(asked[1])
        else:
            self.lines.append(f"back {unit}")
            self.frames.pop()
            if self.frames:
                unit, number, place = self.frames[-1]
                self.come(self.walk(unit, number).behind(place[0], self.store))

    def move(self, number, place):
        frame = self.frames[-1]
        frame[1:] = [number, place]
        self.used.add((frame[0], number))
        path = ".".join(map(str, place[0])) if isinstance(place, tuple) else "end"
        self.lines.append(f"move {frame[0]} {number} {path}")

    def rows(self):
        """The frames as the machine tells them."""
        found = []
        for unit, number, place in self.frames:
            rows, numbers = compiled_by_labels(self.twin.bodies[unit][number])
            found.append((unit, number, dict(numbers)[place[0]] if isinstance(place, tuple) else len(rows) - 1))
        return found

    def places(self, number):
        """All places of an edition to which the last call can be moved."""
        walk = self.walk(self.frames[-1][0], number)
        return [self.store] + [row for row in walk.all_rows() if row[1] == self.store]


class MachineTests(unittest.TestCase):
    def refused(self, error, given, call, *arguments, **named):
        with self.assertRaises(error) as caught:
            call(*arguments, **named)
        self.assertIs(caught.exception.given, given)

    def not_asked(self, call, *arguments):
        with self.assertRaises(NotAsked):
            call(*arguments)

    def many(self, count, call, *arguments):
        with self.assertRaises(TooMany) as caught:
            call(*arguments)
        self.assertEqual(caught.exception.count, count)

    def same_game(self, game, text):
        """A game tells what the walk over the texts tells."""
        self.assertEqual(game.asks(), text.asks())
        self.assertEqual((game.store, game.began, game.edition, game.is_over), (text.store, text.began, text.edition, not text.frames))
        self.assertIs(game.is_over.__class__, bool)
        self.assertEqual(game.frames(), text.rows())
        self.assertEqual(game.lines(), text.lines)
        order = list(text.twin.bodies)
        used = sorted(text.used, key=lambda one: (order.index(one[0]), one[1]))
        self.assertEqual(game.used(), [(unit, number, text.twin.bodies[unit][number]) for unit, number in used])
        for told in (game.frames, game.lines, game.used):
            all_new(self, told(), told())
            told().append(None)
            self.assertNotIn(None, told())

    def same_shelf(self, shelf, twin):
        self.assertEqual(shelf.published(), twin.system)
        self.assertEqual(shelf.current(), (twin.system[0], tuple((unit, twin.bodies[unit][twin.stands[unit]]) for unit in twin.bodies)))
        for unit, bodies in twin.bodies.items():
            self.assertEqual(shelf.standing(unit), twin.stands[unit])
            self.assertEqual(shelf.editions(unit), list(enumerate(bodies)))
            all_new(self, shelf.editions(unit), shelf.editions(unit))
            for number, body in enumerate(bodies):
                self.assertEqual(shelf.body_at(unit, number), body)
                self.assertEqual(list(shelf.code_at(unit, number).rows), compiled_by_labels(body)[0])


class ShelfTests(MachineTests):
    def test_against_lists(self):
        random = Random(91)
        for _ in range(60):
            maker = SmallMaker(random, 4)
            system = maker.system()
            shelf, twin = Shelf(system=system), Twin(system)
            self.same_shelf(shelf, twin)
            for _ in range(14):
                unit = random.choice(system[1])[0]
                if random.random() < 0.3:
                    number = random.randrange(len(twin.bodies[unit]))
                    self.assertIsNone(shelf.stand(unit=unit, number=number))
                    twin.stands[unit] = number
                else:
                    body = random.choice([*list(patches(random, maker, system, unit))[:6], *twin.bodies[unit]])
                    try:
                        with_body(system, unit, body)
                    except PatchError:
                        continue
                    if body in twin.bodies[unit] or len(twin.bodies[unit]) < 12:
                        self.assertEqual(shelf.exchange(unit=unit, body=body), twin.exchange(unit, body))
                self.same_shelf(shelf, twin)
            self.assertIs(shelf.published(), system)

    def test_equal_bodies(self):
        system = read_system(HEAD + "unit u { set a = 1 } unit g { call u }")
        shelf = Shelf(system)
        zero, one = (("set", "a", ("num", 0)),), (("set", "a", ("num", 1)),)
        self.assertEqual([shelf.exchange("u", zero), shelf.exchange("u", ()), shelf.exchange("u", (("set", "a", ("num", 0)),)),
                          shelf.exchange("u", one), shelf.standing("u"), shelf.exchange("u", ())], [1, 2, 1, 0, 0, 2])
        truthy = (("set", "a", ("num", True)),)
        self.refused(InvalidBody, truthy, shelf.exchange, "u", truthy)
        self.assertEqual((shelf.standing("u"), len(shelf.editions("u")), shelf.standing("g")), (2, 3, 0))

    def test_twelve_editions(self):
        system = read_system(HEAD + "unit u { } unit g { call u }")
        shelf = Shelf(system)
        bodies = [(("set", "a", ("num", number)),) for number in range(12)]
        self.assertEqual([shelf.exchange("u", body) for body in bodies[:11]], list(range(1, 12)))
        before = shelf.editions("u")
        self.many(13, shelf.exchange, "u", bodies[11])
        self.refused(InvalidBody, None, shelf.exchange, "u", None)
        self.assertEqual((shelf.editions("u"), shelf.standing("u")), (before, 11))
        self.assertEqual([shelf.exchange("u", bodies[3]), shelf.exchange("u", ()), shelf.exchange("g", ())], [4, 0, 1])
        self.many(13, shelf.exchange, "u", bodies[11])
        self.assertEqual(shelf.standing("u"), 0)

    def test_more_than_sixty_statements(self):
        full = (("set", "a", ("num", 1)),) * 20
        text = " ".join(f"unit {unit} {{ {'set b = 0 ' * 12} }}" for unit in ("u", "v", "w", "x", "g"))
        system = read_system(HEAD + text)
        shelf = Shelf(system)
        # each body is judged in the published system alone
        with self.assertRaises(InvalidBody):
            shelf.exchange("u", full)
        shelf = Shelf(read_system(HEAD + "unit u { set a = 2 } unit v { } unit w { set b = 1 } unit x { } unit y { } unit g { call u call w }"))
        for unit in ("u", "v", "w", "x"):
            self.assertEqual(shelf.exchange(unit, full), 1)
        self.assertFalse(is_tree(shelf.current()))
        self.assertEqual(shelf.current()[1][:4], tuple((unit, full) for unit in "uvwx"))
        game = Game(shelf, 0)
        for _ in range(5):
            game.go()
        self.assertEqual((game.store, game.is_over), (2, True))
        self.assertEqual(game.lines(), ["call u 1", "back u", "call w 1", "back w", "back g"])

    def test_two_shelves(self):
        system = read_system(HEAD + "unit u { } unit g { call u }")
        first, second = Shelf(system), Shelf(system)
        first.exchange("u", (("set", "a", ("num", 1)),))
        self.assertEqual([first.standing("u"), second.standing("u"), len(second.editions("u"))], [1, 0, 1])
        self.assertEqual(second.exchange("u", (("set", "a", ("num", 2)),)), 1)
        self.assertEqual(first.body_at("u", 1), (("set", "a", ("num", 1)),))
        games = Game(first, 0), Game(second, 0)
        for game in games:
            game.go()
        self.assertEqual([game.store for game in games], [2, 4])

    def test_errors(self):
        for value in any_values():
            self.refused(InvalidSystem, value, Shelf, value)
        with self.assertRaises(NotFair):
            Shelf(((("a", 2),), (("g", (("call", "g"),)),)))
        system = read_system(HEAD + "unit u { } unit g { call u }")
        shelf = Shelf(system)
        shelf.exchange("u", (("set", "a", ("num", 1)),))
        for value in [*any_values(), "x", "U", ["u"], ("u",)]:
            for call in (shelf.standing, shelf.editions, lambda unit: shelf.stand(unit, None), lambda unit: shelf.body_at(unit, None),
                         lambda unit: shelf.code_at(unit, None), lambda unit: shelf.exchange(unit, None)):
                self.refused(InvalidUnit, value, call, value)
        for unit, many in (("u", 2), ("g", 1)):
            for value in [*any_values(), many, -1, 12, "0", [0], Ratio(0)]:
                if type(value) is not int or not 0 <= value < many:
                    for call in (shelf.stand, shelf.body_at, shelf.code_at):
                        self.refused(InvalidEdition, value, call, unit, value)
        for value in any_values():
            if value != ():
                self.refused(InvalidBody, value, shelf.exchange, "g", value)
        long = (("call", "u"),) * 21
        self.refused(InvalidBody, long, shelf.exchange, "g", long)
        for unit, body, told in [("u", (("call", "u"),), ("call", "u", "u")), ("g", (("draw", "b", ((0, 1), (2, 1))),), ("value", "g", "b"))]:
            with self.assertRaises(NotFair) as caught:
                shelf.exchange(unit, body)
            self.assertEqual((caught.exception.reason, caught.exception.unit, caught.exception.word), told)
        self.assertEqual((shelf.standing("u"), shelf.standing("g"), len(shelf.editions("u")), len(shelf.editions("g"))), (1, 0, 2, 1))
        self.assertEqual(shelf.published(), system)


class GameTests(MachineTests):
    def wrong_steps(self, game):
        """Steps that are not asked for change nothing."""
        asked = game.asks()
        before = (asked, game.store, game.frames(), game.lines(), game.used(), game.is_over)
        if asked[0] != "choose":
            for value in ("go", "nowhere", None, 0):
                self.not_asked(game.answer, value)
        else:
            for value in [None, 0, True, "nowhere", "", ("go",), asked[1], [asked[1][0]]]:
                self.refused(InvalidAnswer, value, game.answer, value)
        if asked[0] != "turn":
            for value in (0, 1, None, "x"):
                self.not_asked(game.turn, value)
        else:
            for value in [None, True, False, -1, asked[1], "0", Ratio(0), (0,), 10 ** 60]:
                self.refused(InvalidPart, value, game.turn, value)
        if asked[0] in ("choose", "turn", "over"):
            self.not_asked(game.go)
        self.assertEqual((game.asks(), game.store, game.frames(), game.lines(), game.used(), game.is_over), before)

    def step(self, random, game, text):
        asked = game.asks()
        if asked[0] == "choose":
            label = random.choice(asked[1])
            self.assertIsNone(game.answer(label=label))
            text.step(label)
        elif asked[0] == "turn":
            part = random.choice([0, asked[1] - 1, random.randrange(asked[1])])
            self.assertIsNone(game.turn(part=part))
            text.step(part)
        else:
            self.assertIsNone(game.go())
            text.step(None)

    def test_against_texts(self):
        """Several games on one shelf, amid exchanges, numbers made to stand and moves."""
        random = Random(92)
        ended, moved, deep = 0, 0, 0
        for _ in range(60):
            maker = SmallMaker(random, 6)
            system = maker.system(random.choice((1, 2, 3, 3)))
            shelf, twin = Shelf(system), Twin(system)
            stores = len(Walk(system[0], ()).space)
            games = []
            for _ in range(60):
                deed = random.random()
                unit = random.choice(system[1])[0]
                if deed < 0.12 and len(games) < 4:
                    store = random.randrange(stores)
                    games.append((Game(shelf=shelf, store=store), TextGame(twin, store), [0]))
                elif deed < 0.2:
                    body = random.choice(list(patches(random, maker, system, unit))[:5])
                    try:
                        with_body(system, unit, body)
                    except PatchError:
                        continue
                    if body in twin.bodies[unit] or len(twin.bodies[unit]) < 12:
                        self.assertEqual(shelf.exchange(unit, body), twin.exchange(unit, body))
                elif deed < 0.25:
                    twin.stands[unit] = random.randrange(len(twin.bodies[unit]))
                    shelf.stand(unit, twin.stands[unit])
                elif games:
                    game, text, moves = random.choice(games)
                    if text.frames and deed < 0.35 and moves[0] < 8:
                        number = random.randrange(len(twin.bodies[text.frames[-1][0]]))
                        place = random.choice(text.places(number))
                        self.assertIsNone(game.move(number=number, place=place))
                        text.move(number, place)
                        moves[0] += 1
                        moved += 1
                    elif text.frames:
                        if random.random() < 0.2:
                            self.wrong_steps(game)
                        self.step(random, game, text)
                    else:
                        ended += 1
                        self.wrong_steps(game)
                        self.not_asked(game.move, None, None)
                for game, text, _ in games:
                    self.same_game(game, text)
                    deep = max(deep, len(text.frames))
        self.assertEqual(deep, 3)
        self.assertGreater(ended, 50)
        self.assertGreater(moved, 60)

    def test_against_play(self):
        """[119]: with published editions alone, a game does what play tells."""
        random = Random(93)
        ended = 0
        for _ in range(80):
            system = (TreeMaker(random) if random.random() < 0.4 else SmallMaker(random, 7)).system()
            shelf = Shelf(system)
            for _ in range(3):
                store = random.randrange(len(Walk(system[0], ()).space))
                game, text, answers = Game(shelf, store), TextGame(Twin(system), store), []
                self.assertEqual((game.edition, game.began), (0, store))
                for _ in range(60):
                    asked = game.asks()
                    if game.is_over:
                        break
                    self.step(random, game, text)
                    if asked[0] == "choose":
                        answers.append(game.lines()[-1].split()[1])
                    elif asked[0] == "turn":
                        answers.append(int(game.lines()[-1].split()[1]))
                lines, end = play(system, store, answers, len(game.lines()))
                self.assertEqual([" ".join(line.split()[:2]) if line.startswith("call") else line for line in game.lines()], lines)
                self.assertEqual(end, game.store if game.is_over else None)
                self.assertEqual(game.asks() == ("over", end), game.is_over)
                ended += game.is_over
        self.assertGreater(ended, 80)

    def test_hundreds_of_steps(self):
        system = read_system(HEAD + "unit u { draw a 0 by 1 1 by 1 2 by 1 } unit g { while yes { call u choose x { } or y { set b = 1 - b } } }")
        random = Random(94)
        shelf, twin = Shelf(system), Twin(system)
        game, text = Game(shelf, 0), TextGame(twin, 0)
        bodies = [system[1][0][1], (("set", "a", ("num", 2)),), (), (("draw", "b", ((0, 2), (1, 1))),)]
        for at in range(700):
            if at % 23 == 0:
                body = bodies[at // 23 % 4]
                self.assertEqual(shelf.exchange("u", body), twin.exchange("u", body))
            self.step(random, game, text)
            if at % 50 == 0:
                self.same_game(game, text)
        self.same_game(game, text)
        self.assertEqual(len(game.lines()), 700)
        self.assertEqual([one[:2] for one in game.used()], [("u", 0), ("u", 1), ("u", 2), ("u", 3), ("g", 0)])

    def test_beginning(self):
        system = read_system(HEAD + "unit u { } unit g { set a = a + 1 if a = 0 { set b = 1 } else { } while a = 1 { } while b = 0 { } }")
        shelf = Shelf(system)
        told = []
        for store in range(6):
            game = Game(shelf, store)
            told.append((game.asks(), game.store, game.began, game.frames(), game.lines(), game.is_over))
        self.assertEqual(told[0], (("loop",), 2, 0, [("g", 0, 15)], [], False))
        self.assertEqual(told[2], (("loop",), 4, 2, [("g", 0, 21)], [], False))
        self.assertEqual(told[3], (("back", "g"), 5, 3, [("g", 0, 23)], [], False))
        self.assertEqual(told[4], (("back", "g"), 1, 4, [("g", 0, 23)], [], False))
        for value in [*any_values(), -1, 6, "0", Ratio(0), (0,)]:
            if type(value) is not int or not 0 <= value < 6:
                self.refused(InvalidStore, value, Game, shelf, value)
        shelf.exchange("g", ())
        game = Game(shelf, 2)
        shelf.stand("g", 0)
        self.assertEqual((game.edition, game.asks(), game.frames()), (1, ("back", "g"), [("g", 1, 0)]))
        game.move(0, 2)
        self.assertEqual((game.edition, game.began, game.frames()), (1, 2, [("g", 0, 23)]))
        game.go()
        self.assertEqual((game.edition, game.asks(), game.is_over, game.store), (1, ("over", 2), True, 2))

    def test_words_like_those_of_steps(self):
        system = read_system("name over 2 unit loop { draw over 0 by 1 1 by 1 } unit back { call loop } unit turn { choose loop { call back } or back { } }")
        game = Game(Shelf(system), 1)
        self.assertEqual(game.asks(), ("choose", ("loop", "back")))
        game.answer("loop")
        self.assertEqual(game.asks(), ("call", "back"))
        game.go()
        self.assertEqual(game.asks(), ("call", "loop"))
        self.refused(InvalidAnswer, "turn", Game(Shelf(system), 1).answer, "turn")
        game.go()
        self.not_asked(game.go)
        game.turn(0)
        told = []
        while not game.is_over:
            told.append(game.asks())
            game.go()
        self.assertEqual(told, [("back", "loop"), ("back", "back"), ("back", "turn")])
        self.assertEqual((game.asks(), game.lines()), (("over", 0), [
            "choose loop", "call back 0", "call loop 0", "turn 0 of 2", "back loop", "back back", "back turn"]))

    def test_calls_go_on_in_their_editions(self):
        system = read_system(HEAD + "unit u { draw a 0 by 1 1 by 1 set b = 1 } unit g { call u call u }")
        shelf = Shelf(system)
        game = Game(shelf, 0)
        game.go()
        self.assertEqual(shelf.exchange("u", (("set", "a", ("num", 2)),)), 1)
        self.assertEqual(shelf.exchange("g", ()), 1)
        self.assertEqual(game.frames(), [("g", 0, 0), ("u", 0, 0)])
        game.turn(1)
        self.assertEqual((game.asks(), game.store), (("back", "u"), 3))
        game.go()
        self.assertEqual((game.asks(), game.frames()), (("call", "u"), [("g", 0, 1)]))
        game.go()
        self.assertEqual((game.asks(), game.store, game.frames()), (("back", "u"), 5, [("g", 0, 1), ("u", 1, 2)]))
        self.assertEqual(game.lines(), ["call u 0", "turn 1 of 2", "back u", "call u 1"])
        other = Game(shelf, 1)
        self.assertEqual((other.edition, other.asks(), other.lines()), (1, ("back", "g"), []))
        self.assertEqual([one[:2] for one in game.used()], [("u", 0), ("u", 1), ("g", 0)])

    def test_moves_to_each_place(self):
        random = Random(95)
        count = 0
        for _ in range(40):
            maker = SmallMaker(random, 6)
            system = maker.system(2)
            shelf, twin = Shelf(system), Twin(system)
            for unit in twin.bodies:
                for body in list(patches(random, maker, system, unit))[1:4]:
                    try:
                        self.assertEqual(shelf.exchange(unit, body), twin.exchange(unit, body))
                    except PatchError:
                        pass
            store = random.randrange(len(Walk(system[0], ()).space))
            for steps in range(3):
                reached = TextGame(twin, store)
                for unit_number in range(len(twin.bodies[reached.frames[-1][0]])):
                    for place in reached.places(unit_number):
                        game, text = Game(shelf, store), TextGame(twin, store)
                        for _ in range(steps):
                            if text.frames:
                                self.step(Random(store), game, text)
                        if not text.frames or place not in (text.places(unit_number) if unit_number < len(
                                twin.bodies[text.frames[-1][0]]) else []):
                            continue
                        game.move(unit_number, place)
                        text.move(unit_number, place)
                        self.same_game(game, text)
                        for _ in range(4):
                            if text.frames:
                                self.step(random, game, text)
                                self.same_game(game, text)
                        count += 1
        self.assertGreater(count, 150)

    def test_move_lines(self):
        system = read_system(HEAD + "unit g { while a = 0 { choose x { } or y { while yes { } } } }")
        shelf = Shelf(system)
        shelf.exchange("g", (("draw", "a", ((0, 1), (1, 1))),))
        game = Game(shelf, 0)
        for number, place in [(0, ((0, 0, 0), 0)), (0, ((0, 0, 0, 1, 0), 0)), (1, ((0,), 0)), (1, ((0,), 0)), (1, 0), (0, ((0,), 0))]:
            game.move(number, place)
        self.assertEqual(game.lines(), ["move g 0 0.0.0", "move g 0 0.0.0.1.0", "move g 1 0", "move g 1 0", "move g 1 end", "move g 0 0"])
        self.assertEqual((game.asks(), game.store, game.edition), (("loop",), 0, 1))
        self.assertEqual([one[:2] for one in game.used()], [("g", 0), ("g", 1)])

    def test_errors_of_moves(self):
        system = read_system(HEAD + "unit u { draw a 0 by 1 1 by 1 } unit g { while a < 2 { call u set a = 1 } set b = 1 if yes { call u } else { } }")
        shelf = Shelf(system)
        shelf.exchange("g", (("draw", "b", ((0, 1), (1, 1))),))
        shelf.stand("g", 0)
        game = Game(shelf, 2)
        before = (game.asks(), game.frames(), game.lines(), game.store, game.used())
        for value in [*any_values(), 2, -1, 11, "0", Ratio(1)]:
            if type(value) is not int or not 0 <= value < 2:
                self.refused(InvalidEdition, value, game.move, value, None)
        wrong = [*[one for one in any_values()], 3, -1, 6, "2", Ratio(2), (2,), ((0,), 1), ((0,), 3), ((0,), 4), ((0,), 5), [(0,), 2], ([0], 2), ((0,), 2, 0),
                 ((1,), 2), ((2,), 2), ((0, 0, 1), 2), ((False,), 2), ((0,), Ratio(2)), ((9,), 2), ((), 2), ((0, 1, 0), 2), ("0", 2), (0, 2), (None, 2)]
        for value in wrong:
            self.refused(InvalidRow, value, game.move, 0, value)
        self.refused(InvalidRow, ((2, 0, 0), 2), game.move, 1, ((2, 0, 0), 2))
        self.assertEqual((game.asks(), game.frames(), game.lines(), game.store, game.used()), before)
        for place in [((0,), 2), ((0, 0, 0), 2), ((2, 0, 0), 2), 2, ((0,), 2), ((0,), 2), 2, ((0,), 2)]:
            game.move(0, place)
        self.assertEqual(len(game.lines()), 8)
        self.many(9, game.move, 1, ((0,), 2))
        self.many(9, game.move, 0, ((0,), 2))
        self.refused(InvalidRow, None, game.move, 0, None)
        self.refused(InvalidEdition, 7, game.move, 7, None)
        self.assertEqual(game.frames(), before[1])
        self.assertEqual(game.used(), before[4])
        # the moves of all calls of a game are counted, not those of one call, nor those of other games
        game.go()
        game.go()
        self.many(9, game.move, 0, ((0,), 2))
        other = Game(shelf, 2)
        other.move(1, 2)
        other.go()
        self.assertTrue(other.is_over)
        for number, place in [(0, 2), (5, None), (None, None), (0, None)]:
            self.not_asked(other.move, number, place)
        self.assertEqual(other.frames(), [])

    def test_while_with_a_condition_that_does_not_hold(self):
        system = read_system(HEAD + "unit g { while a = 0 { } choose x { } or y { } }")
        shelf = Shelf(system)
        game = Game(shelf, 2)
        self.refused(InvalidRow, ((0,), 2), game.move, 0, ((0,), 2))
        self.refused(InvalidRow, ((0,), 0), game.move, 0, ((0,), 0))
        game.move(0, ((1,), 2))
        self.assertEqual(game.asks(), ("choose", ("x", "y")))
        game.answer("y")
        game.go()
        self.assertEqual(game.asks(), ("over", 2))

    def test_a_game_that_is_not_stepped(self):
        system = read_system(HEAD + "unit u { } unit g { while yes { call u } }")
        shelf = Shelf(system)
        still, going = Game(shelf, 1), Game(shelf, 1)
        before = (still.asks(), still.store, still.frames(), still.lines(), still.used(), still.edition)
        for at in range(20):
            going.go()
            shelf.exchange("g", (("set", "a", ("num", at % 3)),))
            shelf.exchange("u", (("set", "a", ("num", at % 3)),))
        going.move(0, going.store)
        self.assertEqual((still.asks(), still.store, still.frames(), still.lines(), still.used(), still.edition), before)

    def test_arguments_stay_as_they_are(self):
        system = read_system(HEAD + "unit u { } unit g { call u }")
        shelf = Shelf(system)
        self.assertIs(shelf.published(), system)
        current = shelf.current()
        self.assertEqual(current, system)
        self.assertTrue(shelf.code_at(unit="u", number=0) == compiled(system, "u", ()))
        self.assertEqual(shelf.body_at(number=0, unit="g"), (("call", "u"),))
        self.assertEqual([shelf.standing(unit="g"), shelf.editions(unit="g")], [0, [(0, (("call", "u"),))]])

    def test_speed(self):
        long = " ".join(["draw a 0 by 1 1 by 1 if a = 1 { set b = b * (a + (b * 3)) } else { }"] * 6)
        system = read_system(HEAD + "unit g { while yes { " + long + " } }")
        game = Game(Shelf(system), 0)
        begun = time.time()
        for _ in range(140):
            game.go()
            for _ in range(6):
                game.turn(1)
        self.assertLess(time.time() - begun, 0.5)
        self.assertEqual(len(game.lines()), 980)


if __name__ == "__main__":
    unittest.main()
