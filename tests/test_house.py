import time
import unittest
from copy import deepcopy
from fractions import Fraction
from random import Random

from fairpatch.checks import calls_of, with_body
from fairpatch.errors import (
    InvalidAnswer, InvalidEdition, InvalidGame, InvalidPart, InvalidRow, InvalidStore, NotAsked, NotLet, TooGreat, TooMany, TooRich,
)
from fairpatch.forward import summary
from fairpatch.house import House
from fairpatch.ratios import Ratio
from fairpatch.registry import Registry
from fairpatch.stands import is_paper_at, paper_at
from fairpatch.texts import read_system
from fairpatch.webs import web
from tests.houses import CLUB, LOOP, HouseMaker, places_for, small_registry, some_answer, try_exchange, wrong_numbers
from tests.judges import all_new
from tests.samples import any_values
from tests.test_forward import GREAT, inside, tree
from tests.test_machine import TextGame
from tests.test_picks import THREE, TWO
from tests.test_webs import straight
from tests.walks import lot_of_chances

HEAD = "name a 2 name b 2 "


class Twin:
    """What TextGame needs of a registry: the system, all bodies and what stands."""

    def __init__(self, registry):
        self.registry = registry
        self.system = registry.published()

    @property
    def bodies(self):
        return {unit: [body for _, body in self.registry.editions(unit)] for unit, _ in self.system[1]}

    @property
    def stands(self):
        return {unit: self.registry.standing(unit) for unit, _ in self.system[1]}


def edition_web(registry, unit, number):
    system = with_body(registry.published(), unit, registry.body_at(unit, number))
    return web(system, unit, {called: summary(registry.published(), called) for called in calls_of(system, unit)})


class HouseTests(unittest.TestCase):
    def refused(self, error, given, call, *arguments):
        with self.assertRaises(error) as caught:
            call(*arguments)
        self.assertIs(caught.exception.given, given)

    def raised(self, error, attributes, call, *arguments, **named):
        with self.assertRaises(error) as caught:
            call(*arguments, **named)
        self.assertEqual(vars(caught.exception), attributes)

    def frames_of(self, text):
        return [(unit, number, place) for unit, number, place in text.frames]

    def same(self, house, texts):
        self.assertEqual(house.games(), list(range(len(texts))))
        for game, text in enumerate(texts):
            self.assertEqual(house.asks(game), text.asks())
            self.assertEqual((house.store_now(game), house.start_of(game)), (text.store, (text.began, text.edition)))
            self.assertEqual(house.lines(game), text.lines)
            self.assertEqual(house.frames(game), self.frames_of(text))
            for told in (house.lines, house.frames):
                all_new(self, told(game), told(game=game))
        all_new(self, house.games(), house.games())
        going = {(unit, number) for text in texts for unit, number, _ in text.frames}
        registry = house.registry
        unused = [(unit, number) for unit, _ in registry.published()[1] for number, _ in registry.editions(unit)
                  if number not in (0, registry.standing(unit)) and (unit, number) not in going]
        self.assertEqual(house.unused(), unused)
        all_new(self, house.unused(), house.unused())


class StepTests(HouseTests):
    def test_against_texts(self):
        random, moved = Random(211), {True: 0, False: 0}
        for _ in range(40):
            maker = HouseMaker(random, 6)
            registry = small_registry(random, maker=maker, units=random.randrange(1, 5))
            house, twin, texts = House(registry=registry), Twin(registry), []
            self.assertIs(house.registry, registry)
            never = registry.space.never
            for _ in range(40):
                if len(texts) < 3 and random.random() < 0.2:
                    store = random.randrange(never)
                    self.assertEqual(house.begin(store=store), len(texts))
                    texts.append(TextGame(twin, store))
                elif random.random() < 0.2:
                    try_exchange(random, maker, registry)
                elif random.random() < 0.2:
                    unit = random.choice(registry.published()[1])[0]
                    registry.stand(unit, random.randrange(len(registry.editions(unit))))
                elif texts:
                    game = random.randrange(len(texts))
                    if random.random() < 0.3 and house.frames(game):
                        moved[self.move(house, game, texts[game], *random.choice(places_for(house, game)))] += 1
                    else:
                        self.step(random, house, game, texts[game])
                self.same(house, texts)
        self.assertGreater(min(moved.values()), 20)

    def step(self, random, house, game, text):
        asked = text.asks()
        wrong = [*any_values(), "Go", "choose", -1, 10 ** 20, Ratio(1), ["go"]]
        if asked[0] == "over":
            for value in [None, "go", 0]:
                self.raised(NotAsked, {}, house.step, game, value)
            return
        error = InvalidPart if asked[0] == "turn" else InvalidAnswer
        for value in random.sample(wrong, 12) + ([asked[1]] if asked[0] == "turn" else []) + [True, False, "zz"]:
            right = value is None if asked[0] not in ("choose", "turn") else (
                type(value) is str and value in asked[1] if asked[0] == "choose" else type(value) is int and 0 <= value < asked[1])
            if not right:
                self.refused(error, value, house.step, game, value)
        answer = some_answer(random, asked)
        if answer is None:
            self.assertIsNone(house.step(game))
        else:
            self.assertIsNone(house.step(answer=answer, game=game))
        text.step(answer)

    def move(self, house, game, text, number, place):
        """A move, judged by paper_at from the new place and from the old one; whether it is let by."""
        registry, (unit, elder, spot) = house.registry, text.frames[-1]
        if sum(line.startswith("move") for line in text.lines) == 8:
            self.raised(TooMany, {"count": 9}, house.move, game, number, place)
            return True
        near, far = edition_web(registry, unit, number), edition_web(registry, unit, elder)
        try:
            told = paper_at(near, place, far, spot)
        except TooMany as error:
            self.raised(TooMany, vars(error), house.move, game, number, place)
            return True
        if told[0] == "yes":
            self.assertIsNone(house.move(place=place, number=number, game=game))
            text.move(number, place)
            return True
        attributes = dict(zip(("store", "pick", "payoff", "table"), (text.store, *told[1:])))
        self.raised(NotLet, attributes, house.move, game, number, place)
        self.assertTrue(is_paper_at(near, place, far, spot, told))
        return False


class GameTests(HouseTests):
    def test_twenty_games(self):
        house = House(Registry(read_system(LOOP)))
        self.assertEqual((house.games(), house.unused()), ([], []))
        for value in [*any_values(), 3, -1]:
            if not type(value) is int or not 0 <= value < 3:
                self.refused(InvalidStore, value, house.begin, value)
            self.assertIs(house.has(value), False)
        for game in range(20):
            self.assertEqual(house.begin(game % 3), game)
            for value in wrong_numbers(game + 1):
                self.assertIs(house.has(value=value), False)
            self.assertIs(house.has(game), True)
        self.refused(InvalidStore, 3, house.begin, 3)
        self.raised(TooMany, {"count": 21}, house.begin, 1)
        self.assertEqual(house.games(), list(range(20)))
        house.step(2)
        self.assertEqual((house.asks(2), house.has(2), len(house.games())), (("over", 2), True, 20))
        self.raised(TooMany, {"count": 21}, house.begin, 1)

    def test_wrong_games(self):
        house = House(Registry(read_system(LOOP)))
        for begun in range(2):
            for value in [*any_values(), *wrong_numbers(begun)]:
                if type(value) is int and 0 <= value < begun:
                    continue
                for call in (house.asks, house.lines, house.store_now, house.start_of, house.frames, house.step):
                    self.refused(InvalidGame, value, call, value)
                self.refused(InvalidGame, value, house.step, value, "up")
                self.refused(InvalidGame, value, house.move, value, None, None)
            house.begin(0)

    def test_not_asked_comes_first(self):
        house = House(Registry(read_system(LOOP)))
        house.begin(2)
        house.step(0)
        for value in any_values():
            self.raised(NotAsked, {}, house.step, 0, value)
            self.raised(NotAsked, {}, house.move, 0, value, value)
        self.raised(NotAsked, {}, house.step, 0)
        self.assertEqual((house.frames(0), house.lines(0), house.start_of(0)), ([], ["back game"], (2, 0)))

    def test_answers_by_question(self):
        house = House(Registry(read_system(CLUB)))
        house.begin(0)
        for steps, wrong, error in [
            ([None], ["roll", 0, False, Ratio(0), 2], InvalidAnswer), ([None], ["loop", 0], InvalidAnswer), ([None], ["roll", 1], InvalidAnswer),
            (["high"], [None, 0, "mid", ("high",), ["high"]], InvalidAnswer), ([2], [None, "2", 3, -1, True, Ratio(1), [1]], InvalidPart),
            ([None], ["roll", 0], InvalidAnswer),
        ]:
            for value in wrong:
                self.refused(error, value, house.step, 0, value)
            for answer in steps:
                house.step(0, answer)
        self.assertEqual(house.lines(0), ["call turn 0", "loop", "call roll 0", "choose high", "turn 2 of 3", "back roll"])
        self.assertEqual(house.frames(0), [("game", 0, ((0,), 0)), ("turn", 0, ((0, 0, 1), 2))])

    def test_two_houses(self):
        first, second = House(Registry(read_system(CLUB))), House(Registry(read_system(CLUB)))
        coin = (("draw", "hp", ((0, 1), (1, 3))),)
        for house in (first, second):
            house.begin(0)
        self.assertEqual(first.registry.exchange("roll", coin), 1)
        first.step(0)
        self.assertEqual((first.asks(0), second.asks(0), second.lines(0)), (("loop",), ("call", "turn"), []))
        self.assertEqual(second.registry.standing("roll"), 0)
        self.assertEqual(first.unused(), [])
        first.registry.stand("roll", 0)
        self.assertEqual((first.unused(), second.unused()), ([("roll", 1)], []))

    def test_unused(self):
        house = House(Registry(read_system(CLUB)))
        registry, coin, turn = house.registry, (("draw", "hp", ((0, 1), (1, 3))),), read_system(CLUB)[1][1][1]
        registry.exchange("roll", coin)
        registry.exchange("turn", (*turn, ("set", "hp", ("name", "hp"))))
        registry.exchange("game", (*read_system(CLUB)[1][2][1], ("set", "hp", ("name", "hp"))))
        house.begin(0)
        for _ in range(3):
            house.step(0)
        self.assertEqual([frame[:2] for frame in house.frames(0)], [("game", 1), ("turn", 1), ("roll", 1)])
        for unit in ("roll", "turn", "game"):
            registry.stand(unit, 0)
        self.assertEqual(house.unused(), [])
        house.step(0, 0)
        house.step(0)
        self.assertEqual(house.unused(), [("roll", 1)])
        house.move(0, 0, ((0, 0, 1), 0))
        self.assertEqual(house.unused(), [("roll", 1), ("turn", 1)])
        registry.stand("roll", 1)
        self.assertEqual(house.unused(), [("turn", 1)])


class MoveTests(HouseTests):
    def test_errors_in_order(self):
        house = House(Registry(read_system(LOOP)))
        registry = house.registry
        loop = read_system(LOOP.replace("choose up { set hp = hp + 1 } or wait { }", "set hp = hp + 1"))[1][0][1]
        registry.exchange("game", loop)
        registry.stand("game", 0)
        house.begin(0)
        for value in wrong_numbers(2):
            self.refused(InvalidEdition, value, house.move, 0, value, None)
        places = [*any_values(), ((0,), 1), ((0,), 2), ((0,), True), ((0, 0, 0), 0), ((0, 0, 1), 0), ((1,), 0), ([0], 0), ((0,), 0, 0), ((), 0), 1, 2]
        for value in places:
            if value != 0 or type(value) is not int:
                self.refused(InvalidRow, value, house.move, 0, 1, value)
        self.refused(InvalidRow, ((0, 0, 0), 1), house.move, 0, 0, ((0, 0, 0), 1))
        self.assertIsNone(house.move(0, 0, ((0, 0, 0), 0)))
        with self.assertRaises(NotLet) as caught:
            house.move(0, 1, 0)
        error = caught.exception
        self.assertEqual((error.store, error.pick, len(error.payoff)), (0, (), 4))
        self.assertEqual([row for row, _ in error.table], [((0,), 0), ((0,), 1), ((0, 0, 0), 0), ((0, 0, 0), 1)])
        self.assertEqual(house.lines(0), ["move game 0 0.0.0"])

    def test_an_old_place_that_is_a_store(self):
        house = House(Registry(read_system(LOOP)))
        house.begin(2)
        same = (*read_system(LOOP)[1][0][1], ("choose", (("x", ()), ("y", ()))))
        house.registry.exchange("game", same)
        self.assertIsNone(house.move(0, 1, ((1,), 2)))
        self.assertIsNone(house.move(0, 0, 2))
        self.assertEqual(house.lines(0), ["move game 1 1", "move game 0 end"])
        never = House(Registry(read_system("name a 2 unit g { choose x { while yes { } } or y { } }")))
        never.begin(1)
        never.step(0, "y")
        with self.assertRaises(NotLet) as caught:
            never.move(0, 0, ((0,), 1))
        error = caught.exception
        self.assertEqual((error.store, error.table), (1, []))
        self.assertEqual(error.pick, (0,))
        self.assertGreater(error.payoff[2], error.payoff[1])
        self.assertEqual(never.lines(0), ["choose y"])

    def test_eight_moves(self):
        house = House(Registry(read_system(LOOP)))
        house.begin(0), house.begin(0)
        for _ in range(8):
            house.move(0, 0, ((0,), 0))
        self.refused(InvalidEdition, 1, house.move, 0, 1, None)
        self.refused(InvalidRow, 1, house.move, 0, 0, 1)
        for place in (((0,), 0), ((0, 0, 0), 0), 0):
            self.raised(TooMany, {"count": 9}, house.move, 0, 0, place)
        self.assertEqual(house.lines(0), ["move game 0 0"] * 8)
        for _ in range(8):
            house.move(1, 0, ((0,), 0))
        self.raised(TooMany, {"count": 9}, house.move, 1, 0, ((0,), 0))
        house.step(0)
        self.assertEqual(house.lines(0)[-1], "loop")

    def test_refused_moves_do_not_count(self):
        house = House(Registry(read_system("name a 2 unit g { choose x { set a = 0 } or y { set a = 1 } draw a 0 by 1 1 by 1 }")))
        house.begin(0)
        for _ in range(20):
            with self.assertRaises(NotLet):
                house.move(0, 0, 0)
        for _ in range(8):
            house.move(0, 0, ((1,), 0))
        self.raised(TooMany, {"count": 9}, house.move, 0, 0, 0)

    def test_bounds(self):
        names = "name a 2 name b 2 name c 2 "
        rich = "unit rich { if [c = 1] and [a + b = 0] { " + tree(7) + "} else { } } "
        for ahead, called, error, attributes in [
            ("unit low { if a = 1 { " + TWO * 7 + "} else { } } ", "low", TooMany, {"count": 128}),
            (rich, "rich", TooRich, {"unit": "rich", "store": 1, "count": 7}),
            (straight(66)[len(names):].replace("unit g", "unit rowy") + " ", "rowy", TooMany, {"count": 66}),
        ]:
            house = House(Registry(read_system(names + ahead + f"unit v {{ call {called} }} unit g {{ while yes {{ }} call v }}")))
            house.begin(0)
            self.raised(error, attributes, house.move, 0, 0, ((0,), 0))
            # eight moves cannot have been let by here, so the bounds come behind the place alone
            self.refused(InvalidRow, ((0,), 1), house.move, 0, 0, ((0,), 1))

    def test_picks_from_places(self):
        house = House(Registry(read_system(HEAD + "unit g { while a = 0 { } " + TWO * 7 + "draw b 0 by 1 1 by 2 " + THREE * 4 + "}")))
        house.begin(0), house.begin(2)
        self.assertIsNone(house.move(0, 0, ((0,), 0)))
        self.raised(TooMany, {"count": 128 * 81 * 81}, house.move, 0, 0, ((1,), 0))
        with self.assertRaises(TooMany) as first:
            house.move(1, 0, ((8,), 2))
        # first what the new place has, then what the old one has
        self.assertEqual(first.exception.count, 81 * 81)
        with self.assertRaises(TooMany) as second:
            house.move(1, 0, ((12,), 2))
        self.assertEqual(second.exception.count, 128 * 81 * 81)
        self.assertEqual((house.lines(0), house.lines(1)), (["move g 0 0"], []))

    def test_too_great(self):
        system = read_system(GREAT + "unit ud { call uc }")
        house = House(Registry(system))
        house.begin(1)
        self.raised(TooGreat, {"unit": "uc", "store": 1}, house.move, 0, 0, ((0,), 1))
        house = House(Registry((system[0], system[1][:3])))
        house.begin(1)
        place = house.frames(0)[0][2]
        self.raised(TooGreat, {"unit": "uc", "store": 1}, house.move, 0, 0, place)
        self.assertEqual(house.lines(0), [])

    def test_into_other_editions(self):
        house = House(Registry(read_system(CLUB)))
        registry = house.registry
        house.begin(0)
        for answer in [None, None, None]:
            house.step(0, answer)
        registry.exchange("roll", (("draw", "hp", ((0, 1), (1, 3))),))
        # behind the label, and back again by way of what brings no more
        self.assertIsNone(house.move(0, 1, ((0,), 0)))
        self.assertIsNone(house.move(0, 0, ((0, 0, 0), 0)))
        with self.assertRaises(NotLet):
            house.move(0, 0, ((0,), 0))
        self.assertEqual(house.lines(0)[-2:], ["move roll 1 0", "move roll 0 0.0.0"])
        self.assertEqual(house.frames(0)[:2], [("game", 0, ((0,), 0)), ("turn", 0, ((0, 0, 0), 0))])
        house.step(0, 0)
        self.assertIsNone(house.move(0, 1, 0))
        self.assertEqual(house.frames(0)[-1], ("roll", 1, 0))


class LotTests(HouseTests):
    """The lot of the ends, all parts of all wheels looked at, is one that the published system brings."""

    def ends(self, maker, house, seed, chance, found, left):
        """Adds the chances of the ends of a game; False if it goes on too long."""
        random = Random(f"{seed} {house.lines(0)}")
        if random.random() < 0.5:
            try_exchange(random, maker, house.registry)
        if random.random() < 0.5:
            unit = random.choice(house.registry.published()[1])[0]
            house.registry.stand(unit, random.randrange(len(house.registry.editions(unit))))
        if random.random() < 0.4 and house.frames(0):
            try:
                house.move(0, *random.choice(places_for(house, 0)))
            except (NotLet, TooMany):
                pass
        asked = house.asks(0)
        if asked[0] == "over":
            found[asked[1]] = found.get(asked[1], 0) + chance
            return True
        if not left[0]:
            return False
        left[0] -= 1
        answers = range(asked[1]) if asked[0] == "turn" else [some_answer(random, asked)]
        for answer in answers:
            behind = deepcopy(house)
            behind.step(0, answer)
            if not self.ends(maker, behind, seed, chance / len(answers), found, left):
                return False
        return True

    def test_lots_of_ends(self):
        random, seen, mixed_lots = Random(212), 0, 0
        while seen < 60:
            maker = HouseMaker(random, 5)
            registry = small_registry(random, maker=maker, tries=3, units=random.randrange(1, 4))
            system, never = registry.published(), registry.space.never
            try:
                told = summary(system, system[1][-1][0])
            except (TooMany, TooRich):
                continue
            store, found = random.randrange(never), {}
            house = House(registry)
            house.begin(store)
            if not self.ends(maker, house, random.random(), Fraction(1), found, [80]):
                continue
            seen += 1
            mixed_lots += len(found) > 1
            lot = lot_of_chances([found.get(outcome, Fraction(0)) for outcome in range(never + 1)])
            self.assertTrue(inside(told[store], lot), (registry.lines(), store, lot))
        self.assertGreater(mixed_lots, 10)


class SpeedTests(HouseTests):
    def test_steps(self):
        house = House(Registry(read_system(LOOP)))
        for game in range(20):
            house.begin(0)
        begun = time.perf_counter()
        for _ in range(100):
            for game in house.games():
                house.step(game)
                house.frames(game)
                house.step(game, "wait")
        self.assertLess((time.perf_counter() - begun) / 6000, 0.001)

    def test_moves_on_what_was_worked_out(self):
        house = House(Registry(read_system(CLUB)))
        for game in range(20):
            house.begin(0)
        begun = time.perf_counter()
        for game in house.games():
            for _ in range(8):
                house.move(game, 0, ((0,), 0))
        self.assertLess((time.perf_counter() - begun) / 160, 0.01)


if __name__ == "__main__":
    unittest.main()
