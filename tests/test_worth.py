import time
import unittest
from copy import deepcopy
from random import Random

from fairpatch.errors import InvalidGame, InvalidPayoff, NotLet, PatchError, TooGreat, TooMany, TooRich
from fairpatch.forward import best, summary
from fairpatch.house import House
from fairpatch.ratios import Ratio
from fairpatch.registry import Registry
from fairpatch.texts import read_system
from fairpatch.worth import is_bound, is_worth_paper, worth, worth_paper
from tests import houses
from tests.houses import CLUB, LOOP, HouseMaker, places_for, some_answer, some_deed, some_house, try_exchange, worth_ahead, wrong_numbers
from tests.judges import all_new, fraction
from tests.samples import any_values
from tests.small import spoiled
from tests.test_forward import GREAT, tree
from tests.test_picks import THREE, TWO
from tests.test_webs import straight

HEAD = "name a 2 name b 2 "
OTHERS = [None, True, False, 0, 1, -1, (), [], {}, "", "yes", Ratio(1, 2), Ratio(0)]


def some_payoff(random, never):
    """Payoffs with never's number the greatest, the least, or between."""
    payoff = [random.randrange(-5, 6) for _ in range(never + 1)]
    return random.choice([payoff, payoff, [*payoff[:-1], 9], [*payoff[:-1], -9]])


def later(house, game, answer=None):
    """A house as this one is behind a step more of a game."""
    copy = deepcopy(house)
    copy.step(game, answer)
    return copy


class WorthTests(unittest.TestCase):
    def refused(self, error, given, *arguments):
        """All functions of the file refuse this, whatever value is judged."""
        for call, last in [(worth, ()), (worth_paper, ()), (is_worth_paper, (None,)), (is_bound, (None,)), (is_bound, ((0, []),))]:
            with self.assertRaises(error) as caught:
                call(*arguments, *last)
            self.assertIs(caught.exception.given, given)

    def raised(self, error, attributes, *arguments):
        for call, last in [(worth, ()), (worth_paper, ()), (is_worth_paper, (None,)), (is_bound, (None,)), (is_worth_paper, ((0, []),))]:
            with self.assertRaises(error) as caught:
                call(*arguments, *last)
            self.assertEqual(vars(caught.exception), attributes)


class NumberTests(WorthTests):
    def test_against_all_that_can_come(self):
        random, seen = Random(221), {0: 0, 1: 0, 2: 0, 3: 0, 4: 0}
        while min(seen[1], seen[2], seen[3]) < 40:
            house = some_house(random, games=2, steps=4, maker=HouseMaker(random, 6), units=random.randrange(1, 5))
            never = house.registry.space.never
            for game in range(2):
                for _ in range(4):
                    payoff = some_payoff(random, never)
                    try:
                        told = worth(house=house, game=game, payoff=payoff)
                    except PatchError:
                        break
                    self.assertIs(told.__class__, Ratio)
                    expected = worth_ahead(house, game, payoff)
                    if expected is not None:
                        seen[min(4, len(house.frames(game)))] += 1
                        self.assertAlmostEqual(told.top / told.bottom, expected, 6)
                        self.assertEqual(told, worth(house, game, tuple(payoff)))
                    some_deed(random, house, game)

    def test_games_that_have_ended(self):
        house = House(Registry(read_system(LOOP)))
        house.begin(2)
        house.step(0)
        self.assertEqual(worth(house, 0, [1, 2, -7, 9]), -7)
        paper = worth_paper(house, 0, [1, 2, -7, 9])
        self.assertEqual(paper, (-7, []))
        for value in [(-7, []), (-7, ()), (Ratio(-7), [])]:
            self.assertIs(is_worth_paper(house, 0, [1, 2, -7, 9], value), True)
            self.assertIs(is_bound(house, 0, (1, 2, -7, 9), value), True)
        for value in [(-6, []), (-7, [[]]), [-7, []], (-7,), (-7, [], []), (True, []), (-7, None), (-7, {})]:
            self.assertIs(is_worth_paper(house, 0, [1, 2, -7, 9], value), False)
            self.assertIs(is_bound(house, 0, [1, 2, -7, 9], value), False)

    def test_the_beginning(self):
        random, seen = Random(222), 0
        while seen < 60:
            house = some_house(random, games=0)
            registry, system = house.registry, house.registry.published()
            unit, never = system[1][-1][0], registry.space.never
            try:
                told = {name: summary(system, name) for name, _ in system[1][:-1]}
                for store in range(never):
                    payoff, game = some_payoff(random, never), house.begin(store)
                    greatest = fraction(best(system, unit, store, told, payoff))
                    now = fraction(worth(house, game, payoff))
                    self.assertLessEqual(now, greatest)
                    if registry.standing(unit) == 0:
                        self.assertEqual(now, greatest)
                        seen += 1
            except (TooMany, TooRich, TooGreat):
                continue

    def test_stores_that_no_corner_has(self):
        house = House(Registry(read_system("name a 3 unit u { set a = 1 } unit g { call u while a = 2 { } }")))
        house.begin(0)
        house.step(0)
        # u never ends in 0 or 2, so these count as never
        for payoff, number in [([7, 1, 7, 0], 1), ([7, 1, 7, 9], 1), ([-7, 1, -7, -9], 1)]:
            self.assertEqual(worth(house, 0, payoff), number)
            self.assertTrue(is_worth_paper(house, 0, payoff, worth_paper(house, 0, payoff)))


class NeverMoreTests(WorthTests):
    def test_steps(self):
        random, seen = Random(223), {}
        while min([seen.get(kind, 0) for kind in ("choose", "turn", "loop", "back", "call")] + [1000]) < 25:
            maker = HouseMaker(random, 6)
            house = some_house(random, games=2, steps=3, maker=maker, units=random.randrange(1, 4))
            try:
                for _ in range(5):
                    self.one_step(random, maker, house, seen)
            except (TooMany, TooRich, TooGreat):
                continue

    def one_step(self, random, maker, house, seen):
        never, registry = house.registry.space.never, house.registry
        payoff, asked = some_payoff(random, never), house.asks(0)
        ahead = fraction(worth(house, 0, payoff))
        seen[asked[0]] = seen.get(asked[0], 0) + 1
        if asked[0] == "over":
            self.assertEqual(ahead, payoff[asked[1]])
            return
        if asked[0] == "choose":
            self.assertEqual(max(fraction(worth(later(house, 0, label), 0, payoff)) for label in asked[1]), ahead)
        elif asked[0] == "turn":
            parts = [fraction(worth(later(house, 0, part), 0, payoff)) for part in range(asked[1])]
            self.assertEqual(sum(parts) / asked[1], ahead)
        elif asked[0] == "call" and registry.standing(asked[1]):
            self.assertLessEqual(fraction(worth(later(house, 0), 0, payoff)), ahead)
        else:
            self.assertEqual(fraction(worth(later(house, 0), 0, payoff)), ahead)
        try_exchange(random, maker, registry)
        unit = random.choice(registry.published()[1])[0]
        registry.stand(unit, random.randrange(len(registry.editions(unit))))
        if house.asks(1)[0] != "over":
            house.step(1, some_answer(random, house.asks(1)))
        self.assertEqual(fraction(worth(house, 0, payoff)), ahead)
        for number, place in random.sample(places_for(house, 0), 1):
            copy = deepcopy(house)
            try:
                copy.move(0, number, place)
                self.assertLessEqual(fraction(worth(copy, 0, payoff)), ahead)
                seen["move"] = seen.get("move", 0) + 1
            except NotLet as error:
                # the refused move would have been worth more by the payoff that is told
                seen["refused"] = seen.get("refused", 0) + 1
                self.assertEqual(worth(copy, 0, payoff), worth(house, 0, payoff))
                self.assertEqual(len(error.payoff), never + 1)
        house.step(0, some_answer(random, asked))

    def test_round_without_a_wheel(self):
        house = House(Registry(read_system(LOOP)))
        house.begin(0)
        for payoff in ([1, 2, 3, 4], [1, 2, 3, -4], [0, 0, 0, 0], [-5, -5, -5, -5]):
            before = house.frames(0)
            house.step(0), house.step(0, "wait")
            self.assertEqual(house.frames(0), before)
            self.assertFalse(worth(house, 0, payoff).below(payoff[-1]))


class PaperTests(WorthTests):
    def test_papers(self):
        random, seen = Random(224), {1: 0, 2: 0, 3: 0, 4: 0}
        while min(seen[1], seen[2], seen[3]) < 20:
            house = some_house(random, games=1, steps=5, maker=HouseMaker(random, 5), units=random.randrange(1, 5))
            if not house.frames(0):
                continue
            never = house.registry.space.never
            payoff = some_payoff(random, never)
            try:
                paper = worth_paper(house=house, game=0, payoff=payoff)
            except PatchError:
                continue
            seen[len(house.frames(0))] += 1
            self.assertEqual(paper[0], worth(house, 0, payoff))
            self.assertIs(paper.__class__, tuple)
            self.assertIs(paper[1].__class__, list)
            self.assertTrue(all(type(one) is tuple and type(one[0]) is list and type(one[1]) is list for one in paper[1]))
            self.assertTrue(houses.is_worth_paper(house, 0, payoff, paper))
            self.assertIs(is_worth_paper(house, 0, payoff, paper), True)
            all_new(self, paper, worth_paper(house, 0, tuple(payoff)))
            self.bounds(random, house, payoff, paper)
            self.tampered(random, house, payoff, paper)

    def bounds(self, random, house, payoff, paper):
        tables = [table for table, _ in paper[1]]
        self.assertTrue(is_bound(house, 0, payoff, (paper[0], tables)))
        self.assertTrue(is_bound(house, 0, payoff, (paper[0], tuple(tuple(table) for table in tables))))
        self.assertFalse(is_bound(house, 0, payoff, paper) and paper[1])
        whole = [[(row, number.top if number.bottom == 1 else number) for row, number in table] for table in tables]
        self.assertTrue(is_bound(house, 0, payoff, (paper[0], whole)))
        self.assertTrue(is_worth_paper(house, 0, payoff, (paper[0], tuple((tuple(table), tuple(moves)) for table, (_, moves) in zip(whole, paper[1])))))
        # raised by a number all alike; where the call stands at its end, its number is that of what it goes by
        more = random.randrange(1, 4)
        raised = [[(row, number + more) for row, number in table] for table in tables]
        number = raised_number(house, payoff, raised)
        self.assertEqual(houses.is_bound(house, 0, payoff, (number, raised)), is_bound(house, 0, payoff, (number, raised)))
        self.assertTrue(is_bound(house, 0, payoff, (number, raised)))
        if house.asks(0)[0] != "back":
            self.assertTrue(is_bound(house, 0, payoff, (paper[0] + more, raised)))
            self.assertFalse(is_bound(house, 0, payoff, (paper[0], raised)))
        lowered = [[(row, number - more) for row, number in table] for table in tables]
        if any(lowered):
            self.assertFalse(is_bound(house, 0, payoff, (paper[0] - more, lowered)))

    def tampered(self, random, house, payoff, paper):
        spoils = list(spoiled(paper, OTHERS))
        verdicts = set()
        for value in random.sample(spoils, min(25, len(spoils))):
            expected = houses.is_worth_paper(house, 0, payoff, value)
            verdicts.add(expected)
            self.assertIs(is_worth_paper(house, 0, payoff, value), expected)
        bound = (paper[0], [table for table, _ in paper[1]])
        spoils = list(spoiled(bound, OTHERS))
        for value in random.sample(spoils, min(15, len(spoils))):
            self.assertIs(is_bound(house, 0, payoff, value), houses.is_bound(house, 0, payoff, value))

    def test_values_of_all_kinds(self):
        house = House(Registry(read_system(CLUB)))
        house.begin(0)
        house.step(0)
        for value in [*any_values(), worth(house, 0, [1, 2, 3, 4])]:
            self.assertIs(is_bound(value=value, payoff=[1, 2, 3, 4], game=0, house=house), False)
            self.assertIs(is_worth_paper(value=value, payoff=[1, 2, 3, 4], game=0, house=house), False)

    def test_moves_that_stay_in_a_ring(self):
        house = House(Registry(read_system("name a 2 unit g { while a = 0 { choose x { } or y { set a = 1 } } }")))
        house.begin(0)
        rows = [((0,), 0), ((0, 0, 0), 0)]
        for payoff, number, index, right in [
            ([0, 3, 3], 3, 0, False), ([0, 3, 3], 3, 1, True), ([0, 2, 3], 3, 0, True), ([0, 2, 3], 3, 1, False),
            ([0, 3, 2], 3, 0, False), ([0, 3, 2], 3, 1, True), ([0, 3, 2], 4, 0, False), ([0, 3, 3], 3, 2, False), ([0, 3, 3], 3, -1, False),
        ]:
            value = (number, [([(row, number) for row in rows], [(rows[0], 0), (rows[1], index)])])
            if payoff == [0, 3, 3] and index == 0:
                right = True  # never's number is 3, too
            self.assertIs(is_worth_paper(house, 0, payoff, value), right, (payoff, index))
            self.assertIs(is_bound(house, 0, payoff, (number, [[(row, number) for row in rows]])), number >= max(payoff[1:]))

    def test_along_a_game(self):
        random, seen = Random(225), {"call": 0, "other": 0}
        while min(seen.values()) < 40:
            house = some_house(random, games=1, steps=4, maker=HouseMaker(random, 6), units=random.randrange(1, 4))
            if not house.frames(0):
                continue
            payoff = some_payoff(random, house.registry.space.never)
            try:
                number, papers = worth_paper(house, 0, payoff)
            except PatchError:
                continue
            more = random.randrange(3)
            tables = [[(row, one + more) for row, one in table] for table, _ in papers]
            number = raised_number(house, payoff, tables)
            self.assertTrue(is_bound(house, 0, payoff, (number, tables)))
            asked = house.asks(0)
            answers = [None] if asked[0] not in ("choose", "turn") else asked[1] if asked[0] == "choose" else range(asked[1])
            seen["call" if asked[0] == "call" else "other"] += 1
            means = []
            for answer in answers:
                behind = later(house, 0, answer)
                kept = tables[:len(behind.frames(0))]
                if asked[0] == "call":
                    fresh = worth_paper_above(behind, payoff, kept)
                    kept = [*kept, fresh]
                else:
                    kept = [met_only(behind, at, table) for at, table in enumerate(kept)]
                told = raised_number(behind, payoff, kept)
                self.assertTrue(is_bound(behind, 0, payoff, (told, kept)))
                means.append(fraction(told))
            self.assertLessEqual(sum(means) / len(means) if asked[0] == "turn" else max(means), fraction(number))


def met_only(house, at, table):
    """The part of a table for the rows that can be met from the place of a frame."""
    unit, number, place = house.frames(0)[at]
    met = houses.walks_below(house.registry.published(), house.registry.body_at(unit, number)).met(place)
    return [(row, one) for row, one in table if row in met]


def ratio(number):
    return Ratio(number.numerator, number.denominator)


def raised_number(house, payoff, tables):
    """The number that tables show."""
    judged = houses.judged_tables(house, 0, payoff, tables)
    return ratio(judged[0]) if judged else Ratio(0)


def worth_paper_above(house, payoff, tables):
    """The least table of the last frame for what it goes by over tables of those below, by the best pick from each row."""
    frames = house.frames(0)
    goes_by = [fraction(one) for one in payoff]
    for (unit, number, place), table in zip(frames, tables):
        walk = houses.walks_below(house.registry.published(), house.registry.body_at(unit, number))
        numbers = {**dict(enumerate(goes_by)), **{row: fraction(one) for row, one in table}}
        goes_by = houses.goes_by_behind(walk, place, numbers, payoff)
    unit, number, place = frames[-1]
    walk = houses.walks_below(house.registry.published(), house.registry.body_at(unit, number))
    return [(row, ratio(max(walk.mean(row, pick, goes_by) for pick in walk.picks(row)))) for row in walk.met(place)]


class ErrorTests(WorthTests):
    def test_games_and_payoffs(self):
        house = House(Registry(read_system(LOOP)))
        self.refused(InvalidGame, 0, house, 0, None)
        zero = house.begin(0)
        for value in [*any_values(), *wrong_numbers(1)]:
            if value != 0 or type(value) is not int:
                self.refused(InvalidGame, value, house, value, None)
            self.refused(InvalidPayoff, value, house, zero, value)
        for payoff in [[1, 2, 3], [1, 2, 3, 4, 5], [1, 2, 3, True], [1, 2, Ratio(3), 4], [1, 2, "3", 4], {0: 1, 1: 2, 2: 3, 3: 4}, "1234", [None] * 4]:
            self.refused(InvalidPayoff, payoff, house, zero, payoff)
        house.step(zero), house.step(zero, "up"), house.step(zero), house.step(zero, "up"), house.step(zero)
        self.refused(InvalidPayoff, None, house, zero, None)
        self.assertEqual(worth(house, zero, [1, 2, 3, 10 ** 59]), 3)

    def test_bounds_frame_by_frame(self):
        names = "name a 2 name b 2 name c 2 "
        rich = "unit rich { if [c = 1] and [a + b = 0] { " + tree(7) + "} else { } } "
        low = "unit low { if a = 1 { " + TWO * 7 + "} else { } } "
        rowy = straight(66)[len(names):].replace("unit g", "unit rowy") + " "
        # game goes by way of mid, which calls what is too much; the lowest frame comes first
        system = read_system(names + rich + low + "unit mid { call low } unit end { while yes { } } unit game { call end call mid call rich }")
        house = House(Registry(system))
        house.begin(0)
        self.raised(TooRich, {"unit": "rich", "store": 1, "count": 7}, house, 0, [0] * 9)
        system = read_system(names + low + rich + "unit mid { call low } unit end { while yes { } } unit game { call end call mid call rich }")
        house = House(Registry(system))
        house.begin(0)
        self.raised(TooMany, {"count": 128}, house, 0, [0] * 9)
        # rows met from the places of frames
        system = read_system(names + rowy + "unit game { call rowy }")
        house = House(Registry(system))
        house.begin(7)
        self.raised(TooMany, {"count": 66}, house, 0, [0] * 9)
        house.step(0)
        self.raised(TooMany, {"count": 66}, house, 0, [0] * 9)

    def test_rows_from_a_place(self):
        for rows, fine in [(64, True), (65, False)]:
            house = House(Registry(read_system(straight(rows))))
            house.begin(0)
            self.assertEqual(len(house.frames(0)), 1)
            if fine:
                self.assertEqual(worth(house, 0, [1] * 9), 1)
                self.assertTrue(is_worth_paper(house, 0, [1] * 9, worth_paper(house, 0, [1] * 9)))
            else:
                self.raised(TooMany, {"count": rows}, house, 0, [1] * 9)

    def test_fewer_rows_later(self):
        house = House(Registry(read_system(HEAD + "name c 2 unit g { " + "choose x { } or y { } " + straight(64)[len(HEAD + "name c 2 unit g { "):])))
        house.begin(0)
        self.raised(TooMany, {"count": 65}, house, 0, [1] * 9)
        house.step(0, "x")
        self.assertEqual(worth(house, 0, [1] * 9), 1)

    def test_picks_do_not_matter(self):
        house = House(Registry(read_system(HEAD + "unit u { } unit g { call u " + THREE * 9 + "while a = 0 { choose p { set a = 1 } or q { } } }")))
        house.begin(0)
        payoff = [0, 0, 5, 1, 3]
        self.assertEqual(worth(house, 0, payoff), 5)
        self.assertTrue(is_worth_paper(house, 0, payoff, worth_paper(house, 0, payoff)))
        house.step(0), house.step(0)
        self.assertEqual(worth(house, 0, [0, 0, 5, 1, 7]), 7)
        # a unit that is behind the call, and that no summary asks for, does not matter; one that is called does
        house = House(Registry(read_system(HEAD + "unit u { " + TWO * 7 + "} unit v { } unit g { call v }")))
        house.begin(1)
        self.assertEqual(worth(house, 0, [0, 4, 0, 0, 0]), 4)
        house = House(Registry(read_system(HEAD + "unit u { " + TWO * 7 + "} unit g { call u }")))
        house.begin(1)
        self.raised(TooMany, {"count": 128}, house, 0, [0] * 5)

    def test_too_great(self):
        system = read_system(GREAT + "unit ud { call uc }")
        house = House(Registry(system))
        house.begin(1)
        self.raised(TooGreat, {"unit": "uc", "store": 1}, house, 0, [0] * 5)
        # no bound of integers is asked of a frame itself
        house = House(Registry((system[0], system[1][:3])))
        house.begin(1)
        self.assertEqual(worth(house, 0, [2] * 5), 2)


class SpeedTests(WorthTests):
    def test_worths(self):
        house = House(Registry(read_system(CLUB)))
        house.begin(0)
        for _ in range(2):
            house.step(0)
        begun = time.perf_counter()
        for at in range(50):
            paper = worth_paper(house, 0, [at, 1, 3, -2])
            self.assertEqual(paper[0], worth(house, 0, [at, 1, 3, -2]))
            self.assertTrue(is_worth_paper(house, 0, [at, 1, 3, -2], paper))
        self.assertLess((time.perf_counter() - begun) / 150, 0.03)


if __name__ == "__main__":
    unittest.main()
