import time
import unittest
from copy import deepcopy
from random import Random

from fairpatch.checks import is_fair
from fairpatch.errors import InvalidGame, InvalidLines, InvalidPayoff, InvalidSystem, NotFair, TooGreat, TooMany, TooRich
from fairpatch.house import House
from fairpatch.pictures import audit, go_on, is_audit, picture, reckoning
from fairpatch.records import record_of
from fairpatch.registry import Registry
from fairpatch.texts import is_tree, read_system
from fairpatch.worth import worth
from tests import judges
from tests.houses import CLUB, LOOP, HouseMaker, some_answer, some_deed, some_house, try_exchange, walks_below, wrong_numbers
from tests.judges import all_new, is_list, is_tuple
from tests.samples import any_values
from tests.small import spoiled
from tests.test_picks import THREE, TWO
from tests.test_records import judged
from tests.test_webs import straight
from tests.test_worth import some_payoff

OTHERS = [None, True, 0, (), [], "yes", ("yes", []), ("no", 0, (), [], [])]
BITS = "name a 2 name b 2 "


def is_right(system, value):
    """A judge of audits of the tests' own, for systems whose units can be judged."""
    if not is_tuple(value, 3) or judged(system, value[0]) is None:
        return False
    text, editions = judged(system, value[0]), value[0][1]
    if not is_list(value[1], len(editions)) or not is_list(value[2], len(text.moves)):
        return False
    bodies = {(unit, number): body for unit, number, body in editions}
    for (unit, number, body), paper in zip(editions, value[1]):
        if number == 0:
            if paper is not None:
                return False
        else:
            new, old = walks_below(system, body), walks_below(system, dict(system[1])[unit])
            if type(paper) is not tuple or paper[:1] != ("yes",) or not judges.is_paper_for(new, old, paper):
                return False
    for (unit, elder, spot, number, place), paper in zip(text.moves, value[2]):
        near, far = walks_below(system, bodies[(unit, number)]), walks_below(system, bodies[(unit, elder)])
        if type(paper) is not tuple or paper[:1] != ("yes",) or not judges.is_paper_at(near, place, far, spot, paper):
            return False
    return True


class PictureTests(unittest.TestCase):
    def refused(self, error, given, call, *arguments):
        with self.assertRaises(error) as caught:
            call(*arguments)
        self.assertIs(caught.exception.given, given)

    def raised(self, error, attributes, call, *arguments):
        with self.assertRaises(error) as caught:
            call(*arguments)
        self.assertEqual(vars(caught.exception), attributes)

    def no_lines(self, value):
        self.refused(InvalidLines, value, go_on, value)


class AuditTests(PictureTests):
    def test_of_games(self):
        random, seen = Random(241), {"moves": 0, "papers": 0, "over": 0, "spoiled": 0, "right": 0}
        while min(seen.values()) < 25:
            house = some_house(random, games=1, steps=12, maker=HouseMaker(random, 5), units=random.randrange(1, 4))
            system, registry = house.registry.published(), house.registry
            told = audit(house=house, game=0)
            all_new(self, told, audit(house, 0))
            self.assertEqual([type(part) for part in told], [tuple, list, list])
            self.assertEqual(told[0], record_of(house, 0))
            self.assertEqual(told[1], [registry.paper(unit, number) for unit, number, _ in told[0][1]])
            self.assertTrue(is_right(system, told))
            self.assertIs(is_audit(system=system, value=told), True)
            self.assertTrue(is_audit(system, (told[0], tuple(told[1]), tuple(told[2]))))
            seen["moves"] += len(told[2]) > 0
            seen["papers"] += any(told[1])
            seen["over"] += not house.frames(0)
            self.assertTrue(is_audit(system, doubled(told)))
            spoils = list(spoiled((told[1], told[2]), OTHERS)) if told[2] or any(told[1]) else []
            for part in random.sample(spoils, min(30, len(spoils))):
                value = (told[0], *part) if isinstance(part, tuple) else part
                right = is_right(system, value)
                seen["right" if right else "spoiled"] += 1
                self.assertIs(is_audit(system, value), right)
            for value in random.sample(list(spoiled(told[0], OTHERS)), 10):
                self.assertIs(is_audit(system, (value, *told[1:])), is_right(system, (value, *told[1:])))

    def test_each_kind_of_move(self):
        house = House(Registry(read_system(CLUB)))
        house.begin(0)
        for _ in range(3):
            house.step(0)
        house.registry.exchange("roll", (("draw", "hp", ((0, 1), (1, 3))),))
        for number, place in [(0, ((0,), 0)), (1, ((0,), 0)), (0, ((0, 0, 0), 0))]:
            house.move(0, number, place)
        house.step(0, 0)
        house.move(0, 1, 0)
        system, told = house.registry.published(), audit(house, 0)
        self.assertEqual([one[0] for one in told[2]], ["yes"] * 4)
        self.assertEqual(told[1], [None, house.registry.paper("roll", 1), None, None])
        self.assertTrue(is_audit(system, told))
        self.assertEqual(told[2][3], ("yes", [((1, 0, 0, 0), [(1, ())])]))
        for wrong in [
            (told[0], told[1], told[2][:3]), (told[0], told[1], [*told[2], told[2][0]]), (told[0], told[1], told[2][::-1]), (told[0], told[1][:3], told[2]),
            (told[0], [None] * 4, told[2]), (told[0], [told[1][1], told[1][1], None, None], told[2]), (told[0], told[1], [None] * 4), told[:2], list(told),
            (told[0], [None, ("no", 0, (), [0, 0, 0, 0], []), None, None], told[2]), (told[0], told[1], [("no", (), [0, 0, 0, 0], []), *told[2][1:]]),
        ]:
            self.assertIs(is_audit(system, wrong), False)
        # other blends that bring the same
        paper = ("yes", [[((1, 3, 0, 0), [(7, (0,))])]] * 3)
        self.assertTrue(is_audit(system, (told[0], [None, paper, None, None], told[2])))

    def test_an_edition_that_is_not_let_by(self):
        system = read_system(CLUB)
        body = (("set", "hp", ("num", 2)),)
        record = (0, [("roll", 1, body), ("turn", 0, dict(system[1])["turn"]), ("game", 0, dict(system[1])["game"])],
                  ["call game 0", "call turn 0", "loop", "call roll 1"])
        self.assertIsNotNone(judged(system, record))
        lot = (0, 0, 1, 0)
        for paper in [None, ("yes", [[(lot, [(1, (0,))])]] * 3), ("yes", [[]] * 3), ("no", 0, (), [0, 0, 1, 0], [])]:
            self.assertFalse(is_audit(system, (record, [paper, None, None], [])))

    def test_moves_that_are_not_let_by(self):
        system = read_system(LOOP)
        record = (0, [("game", 0, dict(system[1])["game"])], ["call game 0", "loop", "choose up", "move game 0 0.0.0", "move game 0 end"])
        good = (record[0], record[1], record[2][:3])
        self.assertTrue(is_audit(system, (good, [None], [])))
        lots = [((0, 0, 0, 1), [(1, (0, 0))]), ((0, 0, 1, 0), [(1, (0, 1))])]
        for moves in ([("yes", [((0, 1, 0, 0), [(1, ())])])], [("yes", lots), ("yes", [((0, 1, 0, 0), [(1, (0,))])])]):
            self.assertFalse(is_audit(system, (record, [None], moves)))

    def test_values_of_all_kinds(self):
        system = read_system(CLUB)
        for value in any_values():
            self.assertIs(is_audit(system, value), False)
            self.assertIs(is_audit(value=(value, value, value), system=system), False)
            if not is_tree(value):
                self.refused(InvalidSystem, value, is_audit, value, None)
        with self.assertRaises(NotFair):
            is_audit(read_system("name a 2 unit g { call g }"), None)
        house = House(Registry(system))
        for value in [*any_values(), *wrong_numbers(0)]:
            self.refused(InvalidGame, value, audit, house, value)

    def test_false_where_errors_would_come(self):
        # the picks of the published unit, and of the new one
        for ahead, behind in [(THREE * 4, "set a = a"), ("", TWO * 7)]:
            system = read_system(BITS + "unit g { " + ahead + "}")
            body = read_system(BITS + "unit g { " + behind + "}")[1][0][1]
            lot = [[((1, 0, 0, 0, 0), [(1, (0,) * 4)])]] * 4
            self.assertFalse(is_audit(system, ((0, [("g", 1, body)], ["call g 1"]), [("yes", lot)], [])))
            self.assertTrue(is_audit(system, ((0, [("g", 0, system[1][0][1])], ["call g 0"]), [None], [])))
        # the summaries for a move, and the picks from its places
        system = read_system(BITS + "unit u { " + TWO * 7 + "} unit g { while yes { } call u }")
        record = (0, [("g", 0, dict(system[1])["g"])], ["call g 0", "move g 0 0"])
        self.assertFalse(is_audit(system, (record, [None], [("yes", [((0, 0, 0, 0, 1), [(1, ())])])])))
        system = read_system(BITS + "unit g { " + TWO * 7 + "}")
        record = (0, [("g", 0, dict(system[1])["g"])], ["call g 0", "move g 0 0"])
        self.assertFalse(is_audit(system, (record, [None], [("yes", [((1, 0, 0, 0, 0), [(1, (0,) * 7)])])])))
        shorter = (record[0], record[1], ["call g 0", "choose x", "move g 0 1"])
        self.assertTrue(is_audit(system, (shorter, [None], [("yes", [((1, 0, 0, 0, 0), [(1, (0,) * 6)])])])))
        self.assertFalse(is_audit(system, (shorter, [None], [("yes", [((1, 0, 0, 0, 0), [(1, (0,) * 7)])])])))


def doubled(told):
    """An audit with twice the weights."""
    def twice(blends):
        return [(lot, [(2 * weight, pick) for weight, pick in blend]) for lot, blend in blends]
    papers = [paper and ("yes", [twice(part) for part in paper[1]]) for paper in told[1]]
    return told[0], papers, [("yes", twice(paper[1])) for paper in told[2]]


class ReckoningTests(PictureTests):
    def test_line_by_line(self):
        random, seen = Random(242), {"over": 0, "moves": 0, "deep": 0}
        while min(seen.values()) < 20:
            house = some_house(random, games=0, maker=HouseMaker(random, 6), units=random.randrange(1, 5))
            never = house.registry.space.never
            house.begin(random.randrange(never))
            payoff = some_payoff(random, never)
            try:
                told = [worth(house, 0, payoff)]
                for _ in range(14):
                    lines = len(house.lines(0))
                    some_deed(random, house, 0)
                    if len(house.lines(0)) > lines:
                        told.append(worth(house, 0, payoff))
            except (TooMany, TooRich, TooGreat):
                continue
            lines = record_of(house, 0)[2]
            numbers = reckoning(house=house, game=0, payoff=payoff)
            self.assertEqual(numbers, [told[0]] + [now - ahead for ahead, now in zip(told, told[1:])])
            self.assertEqual([type(number).__name__ for number in numbers], ["Ratio"] * len(lines))
            all_new(self, numbers, reckoning(house, 0, tuple(payoff)))
            self.assertEqual(sum(numbers[1:], numbers[0]), worth(house, 0, payoff))
            if house.asks(0)[0] == "over":
                self.assertEqual(sum(numbers[1:], numbers[0]), payoff[house.store_now(0)])
            for line, number in list(zip(lines, numbers))[1:]:
                kind = line.split(" ")[0]
                if kind in ("loop", "back"):
                    self.assertEqual(number, 0)
                elif kind != "turn":
                    self.assertFalse((-number).below(0))
            seen["over"] += house.asks(0)[0] == "over"
            seen["moves"] += any(line.startswith("move") for line in lines)
            seen["deep"] += sum(line.startswith("call") for line in lines) > 2

    def line_by_line(self, house, deeds, payoff):
        """A reckoning is what the worths behind each deed tell."""
        told = [worth(house, 0, payoff)]
        for deed in deeds:
            lines = len(house.lines(0))
            deed()
            if len(house.lines(0)) > lines:
                told.append(worth(house, 0, payoff))
        numbers = reckoning(house, 0, payoff)
        self.assertEqual(numbers, [told[0]] + [now - ahead for ahead, now in zip(told, told[1:])])
        return numbers

    def test_calls_of_one_unit_from_several_places(self):
        rules = "name hp 2 name gold 4 unit roll { choose low { draw hp 0 by 3 1 by 1 } or high { draw hp 0 by 1 1 by 2 } } " \
            "unit turn { call roll set gold = gold + hp } unit game { call turn call roll set gold = (gold + hp) + hp call turn set gold = 3 - gold }"
        for payoff in ([0, 3, 9, -4, 1, 1, -7, 2, 0], [5, -1, 2, 7, -3, 4, 8, 0, 9], [0, 1, 2, 3, 4, 5, 6, 7, -9]):
            for labels in (["low", "high", "low"], ["high", "high", "low"], ["low", "low", "high"]):
                house, answers, random = House(Registry(read_system(rules))), iter(labels), Random(247)
                house.begin(0)

                def step():
                    asked = house.asks(0)
                    if asked[0] != "over":
                        house.step(0, next(answers) if asked[0] == "choose" else some_answer(random, asked))
                numbers = self.line_by_line(house, [step] * 20, payoff)
                self.assertEqual(house.asks(0)[0], "over")
                self.assertGreater(len({str(number) for number in numbers}), 4)

    def test_editions_with_equal_places(self):
        rules = "name hp 3 unit roll { choose low { draw hp 0 by 1 1 by 3 } or high { draw hp 1 by 1 2 by 2 } } unit game { call roll }"
        for payoff, label, change in [([0, 3, 9, -4], "low", "-19/4"), ([5, -1, 2, 7], "deep", "-1/2"), ([0, 1, 2, 9], "low", "-11/12")]:
            house = House(Registry(read_system(rules)))
            registry, coin = house.registry, (("draw", "hp", ((0, 1), (1, 3))),)
            house.begin(0)
            self.assertEqual(registry.exchange("roll", (("choose", (("low", coin), ("deep", coin))),)), 1)
            registry.stand("roll", 0)
            deeds = [lambda: house.step(0), lambda: house.move(0, 1, ((0,), 0)), lambda: house.step(0, label), lambda: house.step(0, 0)]
            numbers = self.line_by_line(house, deeds, payoff)
            self.assertEqual(str(numbers[2]), change)
            # the same where the call that is moved is the lowest one
            house = House(Registry(read_system(rules[:rules.index("unit game")])))
            house.begin(0)
            house.registry.exchange("roll", (("choose", (("low", coin), ("deep", coin))),))
            self.assertEqual(str(self.line_by_line(house, deeds[1:], payoff)[1]), change)

    def test_errors(self):
        house = House(Registry(read_system(LOOP)))
        for value in [*any_values(), *wrong_numbers(0)]:
            self.refused(InvalidGame, value, reckoning, house, value, None)
        house.begin(0)
        for value in [*any_values(), [1, 2, 3], [1, 2, 3, True]]:
            self.refused(InvalidPayoff, value, reckoning, house, 0, value)
        # what worth would have raised when the game began, though it tells its worth now
        house = House(Registry(read_system(BITS + "name c 2 unit g { choose x { } or y { } " + straight(64)[len(BITS + "name c 2 unit g { "):])))
        house.begin(0)
        house.step(0, "x")
        self.assertEqual(worth(house, 0, [1] * 9), 1)
        self.raised(TooMany, {"count": 65}, reckoning, house, 0, [1] * 9)

    def test_speed(self):
        house = House(Registry(read_system(CLUB)))
        house.begin(0)
        random = Random(243)
        while len(house.lines(0)) < 60:
            asked = house.asks(0)
            if asked[0] == "choose" and "stop" in asked[1]:
                house.step(0, "more")
            elif asked[0] == "turn":
                house.step(0, 0)
            elif asked[0] == "choose":
                house.step(0, "low")
            else:
                house.step(0, some_answer(random, asked))
        begun = time.perf_counter()
        reckoning(house, 0, [3, 1, 4, 1])
        told = audit(house, 0)
        self.assertTrue(is_audit(house.registry.published(), told))
        self.assertLess(time.perf_counter() - begun, 0.5)


def own_picture(house):
    lines = house.registry.lines()
    for game in house.games():
        lines += [f"game {game} from {house.start_of(game)[0]}", *record_of(house, game)[2]]
    return lines


class GoOnTests(PictureTests):
    def test_there_and_back(self):
        random, seen = Random(244), 0
        for _ in range(60):
            maker = HouseMaker(random, 5)
            house = some_house(random, games=random.randrange(5), steps=9, maker=maker, units=random.randrange(1, 4))
            lines = picture(house=house)
            self.assertEqual(lines, own_picture(house))
            all_new(self, lines, picture(house))
            again = go_on(lines=tuple(lines))
            self.assertIs(again.__class__, House)
            self.assertEqual(picture(again), lines)
            self.assertEqual(again.registry, house.registry)
            self.assertIsNot(again.registry, house.registry)
            self.assertEqual(picture(go_on(lines)), lines)
            self.alike(house, again)
            seen += any(line.startswith("move") for line in lines)
            self.both_go_on(random, maker, house, again)
        self.assertGreater(seen, 10)

    def alike(self, house, again):
        self.assertEqual(house.games(), again.games())
        for game in house.games():
            for one, other in [(house.asks, again.asks), (house.lines, again.lines), (house.store_now, again.store_now), (house.start_of, again.start_of),
                               (house.frames, again.frames)]:
                self.assertEqual(one(game), other(game))
            self.assertEqual(record_of(house, game), record_of(again, game))
            self.assertEqual(audit(house, game), audit(again, game))
        self.assertEqual(house.unused(), again.unused())
        self.assertEqual(picture(house), picture(again))

    def both_go_on(self, random, maker, house, again):
        for _ in range(6):
            seed = random.random()
            told = []
            for one in (house, again):
                own = Random(seed)
                kind = own.random()
                if kind < 0.3 or not one.games():
                    told.append(try_exchange(own, HouseMaker(own, 4), one.registry))
                elif kind < 0.4 and len(one.games()) < 20:
                    told.append(one.begin(own.randrange(one.registry.space.never)))
                else:
                    told.append(some_deed(own, one, own.choice(one.games())))
            self.assertEqual(*told)
            self.alike(house, again)
        # apart: nothing that is done in one of them changes the other one
        before = picture(again)
        for _ in range(6):
            if house.games():
                some_deed(random, house, random.choice(house.games()))
            try_exchange(random, maker, house.registry)
        self.assertEqual(picture(again), before)

    def test_twenty_games(self):
        house = House(Registry(read_system(LOOP)))
        for game in range(20):
            house.begin(game % 3)
            for _ in range(game):
                if house.asks(game)[0] != "over":
                    house.step(game, "wait" if house.asks(game)[0] == "choose" else None)
        lines = picture(house)
        begun = time.perf_counter()
        self.assertEqual(picture(go_on(lines)), lines)
        self.assertLess(time.perf_counter() - begun, 0.5)
        self.no_lines([*lines, "game 20 from 0", "call game 0"])
        with self.assertRaises(TooMany):
            go_on(lines).begin(0)

    def test_games_that_are_none(self):
        house = House(Registry(read_system(LOOP)))
        registry = house.registry
        registry.exchange("game", (*registry.body_at("game", 0), ("set", "hp", ("name", "hp"))))
        registry.stand("game", 0)
        head = registry.lines()
        self.assertEqual(go_on(head).games(), [])
        for games in [
            ["game 0 from 0", "call game 0"], ["game 0 from 2", "call game 1", "back game"], ["game 0 from 0", "call game 0", *["move game 0 0"] * 8],
            ["game 0 from 0", "call game 0", "move game 1 0.0.0", "game 1 from 1", "call game 1", "loop"],
        ]:
            self.assertEqual(picture(go_on([*head, *games])), [*head, *games])
        for games in [
            ["game 0 from 0"], ["game 0 from 3", "call game 0"], ["game 0 from -1", "call game 0"], ["game 0 from 00", "call game 0"],
            ["game 00 from 0", "call game 0"], ["game 1 from 0", "call game 0"], ["game 0 from 0", "call game 2"], ["game 0 from 0", "call game 00"],
            ["game 0 from 0", "call game"], ["game 0 from 0", "call game 0 "], ["game 0 from 0", "call play 0"], ["game 0  from 0", "call game 0"],
            ["game 0 from 0", "loop"], ["game 0 from 0", "call game 0", "loop", "loop"], ["game 0 from 0", "call game 0", "loop", "choose down"],
            ["game 0 from 0", "call game 0", *["move game 0 0"] * 9], ["game 0 from 0", "call game 0", "move game 2 0"], ["game 0 from", "call game 0"],
            ["game 0 from 0", "call game 0", "move game 0 end"], ["game 0 from 0", "call game 0", "move game 0 0.0.1"], ["game"], ["game", "call game 0"],
            ["game 1 from 0", "call game 0", "game 0 from 0", "call game 0"], ["game 0 from 0", "call game 0", "game 0 from 0", "call game 0"],
            ["game 0 from 0", "call game 0", "game 2 from 0", "call game 0"], ["game 0 from 2", "call game 0", "back game", "back game"],
            ["game 0 from 2", "call game 0", "back game", "move game 0 end"], ["game 0 from 0", "call game 0", "stand game 0"], ["game 0 from 0", ""],
            ["game 0 from 0", "call game 0", ""], ["game 0 from None", "call game 0"], ["game 0 from 0 0", "call game 0"], ["games 0 from 0", "call game 0"],
            ["game 0 from 0", "call game 0", "move game 0"], ["game 0 from 0", "call game 0", "move"], ["game 0 from 0", "call game 0", "turn 0 of 2"],
        ]:
            self.no_lines([*head, *games])
        self.no_lines(["game 0 from 0", "call game 0", *head])
        self.no_lines(["game 0 from 0", "call game 0"])
        self.no_lines([])

    def test_moves_that_are_not_let_by(self):
        house = House(Registry(read_system(CLUB)))
        house.begin(0)
        for _ in range(3):
            house.step(0)
        house.registry.exchange("roll", (("draw", "hp", ((0, 1), (1, 3))),))
        house.move(0, 1, ((0,), 0))
        lines = picture(house)
        self.assertEqual(picture(go_on(lines)), lines)
        self.no_lines([*lines, "move roll 0 0"])
        self.assertEqual(go_on([*lines, "move roll 0 0.0.0"]).frames(0)[-1], ("roll", 0, ((0, 0, 0), 0)))
        # a move beyond the bounds of picks
        head = Registry(read_system(BITS + "unit g { " + TWO * 7 + "}")).lines()
        self.assertEqual(go_on([*head, "game 0 from 0", "call g 0", "choose x", "move g 0 1"]).frames(0), [("g", 0, ((1,), 0))])
        self.no_lines([*head, "game 0 from 0", "call g 0", "move g 0 0"])

    def test_spoiled_lines(self):
        random, right = Random(245), 0
        for _ in range(12):
            house = some_house(random, games=2, steps=6, maker=HouseMaker(random, 3), units=random.randrange(1, 3))
            lines = picture(house)
            for _ in range(60):
                at, to = random.randrange(len(lines)), random.randrange(len(lines))
                line = lines[at]
                changed = random.choice([
                    [*lines[:at], *lines[at + 1:]], [*lines[:at], line, *lines[at:]], [*lines[:at], lines[to], *lines[at + 1:]],
                    [*lines[:at], line.replace("0", "1", 1), *lines[at + 1:]], [*lines[:at], line + " ", *lines[at + 1:]],
                    [*lines[:at], line.replace(" 0", " 00", 1), *lines[at + 1:]], [*lines[:at], lines[to], *lines[at:]], lines[:at]])
                try:
                    again = go_on(changed)
                except InvalidLines as error:
                    self.assertIs(error.given, changed)
                else:
                    # the picture of another house
                    right += 1
                    self.assertEqual(own_picture(again), changed)
                    system = again.registry.published()
                    self.assertTrue(all(is_audit(system, audit(again, game)) for game in again.games()))
        self.assertGreater(right, 30)

    def test_arguments_stay_as_they_are(self):
        house = some_house(Random(246), games=3, steps=8, maker=HouseMaker(Random(246), 5))
        lines, payoff = picture(house), [1] * (house.registry.space.never + 1)
        told, system = audit(house, 0), house.registry.published()
        before = (list(lines), list(payoff), deepcopy(told))
        go_on(lines), is_audit(system, told), reckoning(house, 0, payoff), picture(house), worth(house, 0, payoff)
        self.assertEqual((lines, payoff, told), before)
        # what is done with lists that were told changes nothing
        lines.clear(), told[0][2].clear(), told[1].append(None)
        self.assertEqual((picture(house), audit(house, 0)), (before[0], before[2]))

    def test_values_of_all_kinds(self):
        house = House(Registry(read_system(LOOP)))
        house.begin(0)
        lines = picture(house)
        for value in [*any_values(), "\n".join(lines), {"a": lines}, [lines], [*lines, None], [None, *lines], [*lines[:-1], 3], house, house.registry]:
            self.no_lines(value)
        self.assertTrue(is_fair(go_on(lines).registry.published()))


if __name__ == "__main__":
    unittest.main()
