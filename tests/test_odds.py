import time
import unittest
from copy import deepcopy
from fractions import Fraction
from random import Random

from fairpatch.checks import calls_of, is_fair, with_body
from fairpatch.errors import (
    InvalidAnswer, InvalidBody, InvalidPayoff, InvalidPlan, InvalidStore, InvalidSystem, InvalidUnit, NotFair, PatchError, TooGreat,
    TooMany, TooRich,
)
from fairpatch.forward import best, corners_of, summary, table
from fairpatch.odds import Guide, best_plan, corner_picks, is_best_plan, is_plan, lot_of_plan, loss, odds
from fairpatch.plain import play
from fairpatch.ratios import Ratio
from fairpatch.stands import paper_for, stands_for
from fairpatch.texts import is_tree, read_system
from tests import judges
from tests.houses import Ahead, HouseMaker, are_moves, walks_below, wrong_numbers
from tests.judges import all_new, fraction, is_list, is_tuple
from tests.samples import any_values
from tests.small import spoiled
from tests.test_forward import GREAT, tree
from tests.test_picks import THREE, TWO
from tests.test_stands import patches
from tests.test_webs import straight
from tests.test_worth import some_payoff
from tests.walks import part_at

BITS, EIGHT = "name a 2 name b 2 ", "name a 2 name b 2 name c 2 "
OTHERS = [None, True, False, 0, 1, -1, (), [], {}, (0,), "a", Ratio(1, 2)]
RICH = "unit rich { if [c = 1] and [a + b = 0] { " + tree(7) + "} else { } } "
LOW = "unit low { if a = 1 { " + TWO * 7 + "} else { } } "


def called_units(system):
    """The called units of the game, in the order of the system."""
    found, waiting = set(), [system[1][-1][0]]
    while waiting:
        for unit in calls_of(system, waiting.pop()):
            found.add(unit)
            waiting.append(unit)
    return [unit for unit, _ in system[1] if unit in found]


def cases(seed, count, most=5, picks=80):
    """Random systems that can be judged, with a store and the walk of the last unit."""
    random = Random(seed)
    while count:
        system = HouseMaker(random, most).system(random.randrange(1, 5))
        try:
            for unit in called_units(system):
                summary(system, unit)
        except (TooMany, TooRich, TooGreat):
            continue
        walk = walks_below(system, system[1][-1][1])
        store = random.randrange(walk.never)
        if walk.has_few(walk.first(store), 40, picks):
            count -= 1
            yield random, system, store, walk


class OddsTests(unittest.TestCase):
    def refused(self, error, given, call, *arguments):
        with self.assertRaises(error) as caught:
            call(*arguments)
        self.assertIs(caught.exception.given, given)

    def raised(self, error, attributes, call, *arguments):
        with self.assertRaises(error) as caught:
            call(*arguments)
        self.assertEqual(vars(caught.exception), attributes)


class ShareTests(OddsTests):
    def test_against_all_picks(self):
        for random, system, store, walk in cases(251, 150):
            shares = [walk.shares(walk.first(store), pick) for pick in walk.picks(walk.first(store))]
            told = odds(system=system, store=store)
            self.assertEqual([tuple(map(fraction, pair)) for pair in told],
                             [(min(column), max(column)) for column in zip(*shares)])
            self.assertTrue(all(type(pair) is tuple and type(one) is Ratio for pair in told for one in pair))
            all_new(self, told, odds(system, store))

    def test_more_than_64_picks(self):
        eleven = read_system(BITS + "unit g { " + "choose x { draw a 0 by 1 1 by 1 } or y { set b = 1 - b } " * 1 + TWO * 10 + "}")
        with self.assertRaises(TooMany):
            corners_of(eleven, "g", 0, {})
        self.assertEqual([[str(one) for one in pair] for pair in odds(eleven, 0)], [["0", "1/2"], ["0", "1"], ["0", "1/2"], ["0", "0"], ["0", "0"]])
        four = read_system("name a 3 unit g { choose x { draw a 0 by 1 1 by 2 } or y { } or z { while yes { } } " + THREE * 3 + "}")
        self.assertEqual([[str(one) for one in pair] for pair in odds(four, 2)], [["0", "1/3"], ["0", "2/3"], ["0", "1"], ["0", "1"]])

    def test_by_all_that_can_come(self):
        for random, system, store, walk in cases(252, 40, most=6, picks=3 ** 12):
            ahead = Ahead(system)
            for outcome, (least, most) in enumerate(odds(system, store)):
                share = [int(at == outcome) for at in range(walk.never + 1)]
                found = ahead.best(ahead.beginning(system[1][-1][0], store), share)
                lost = ahead.best(ahead.beginning(system[1][-1][0], store), [-one for one in share])
                if found is not None and lost is not None:
                    self.assertAlmostEqual(most.top / most.bottom, found, 6)
                    self.assertAlmostEqual(least.top / least.bottom, -lost, 6)


def least_picks(system):
    """Corner picks by all picks of all called units."""
    found = {}
    for unit in called_units(system):
        walk = walks_below(system, dict(system[1])[unit])
        found[unit] = []
        for store, lots in enumerate(summary(system, unit)):
            place = walk.first(store)
            found[unit].append([min(pick for pick in walk.picks(place) if walk.lot(place, pick) == lot) for lot in lots])
    return found


def are_corner_picks(system, value):
    if type(value) is not dict or sorted(value) != sorted(called_units(system)):
        return False
    for unit, parts in value.items():
        told, walk = summary(system, unit), walks_below(system, dict(system[1])[unit])
        if not is_list(parts, walk.never):
            return False
        for store, (part, lots) in enumerate(zip(parts, told)):
            place = walk.first(store)
            if not is_list(part, len(lots)) or not all(
                    judges.is_pick(walk, place, pick) and walk.lot(place, pick) == lot for pick, lot in zip(part, lots)):
                return False
    return True


def is_right_plan(system, store, value):
    walk = walks_below(system, system[1][-1][1])
    return is_tuple(value, 2) and judges.is_pick(walk, walk.first(store), value[0]) and are_corner_picks(system, value[1])


def other_corner_picks(random, system):
    """Corner picks with any picks of the same lots, keys in another order, tuples in the place of lists."""
    found, keys = {}, called_units(system)
    random.shuffle(keys)
    for unit in keys:
        walk, parts = walks_below(system, dict(system[1])[unit]), []
        for store, lots in enumerate(summary(system, unit)):
            place = walk.first(store)
            parts.append(tuple(random.choice([pick for pick in walk.picks(place) if walk.lot(place, pick) == lot]) for lot in lots))
        found[unit] = tuple(parts)
    return found


def spoiled_plans(plan):
    """Plans that are changed at one place."""
    for value in spoiled(plan[0], OTHERS):
        yield (value, plan[1])
    yield list(plan)
    yield plan[:1]
    yield (*plan, None)
    for other in OTHERS:
        yield (plan[0], other)
    yield (plan[0], {**plan[1], "other": []})
    for unit, parts in plan[1].items():
        yield (plan[0], {key: value for key, value in plan[1].items() if key != unit})
        for value in spoiled(parts, OTHERS):
            yield (plan[0], {**plan[1], unit: value})


class PlanTests(OddsTests):
    def test_corner_picks(self):
        random = Random(253)
        for _, system, store, walk in cases(254, 120):
            told = corner_picks(system=system)
            self.assertEqual(told, least_picks(system))
            self.assertEqual(list(told), called_units(system))
            self.assertTrue(all(type(parts) is list and all(type(part) is list for part in parts) for parts in told.values()))
            all_new(self, list(told.values()), list(corner_picks(system).values()))
            plan = (random.choice(walk.picks(walk.first(store))), told)
            self.assertIs(is_plan(system=system, store=store, value=plan), True)
            other = (plan[0], other_corner_picks(random, system))
            self.assertTrue(is_right_plan(system, store, other))
            self.assertTrue(is_plan(system, store, other))
            for one in (plan, other):
                self.assertEqual(lot_of_plan(system=system, store=store, plan=one), walk.lot(walk.first(store), one[0]))

    def test_spoiled_plans(self):
        random, seen = Random(255), {True: 0, False: 0}
        for _, system, store, walk in cases(256, 60):
            plan = (random.choice(walk.picks(walk.first(store))), other_corner_picks(random, system))
            before = deepcopy(plan)
            spoils = list(spoiled_plans(plan))
            for value in random.sample(spoils, min(40, len(spoils))):
                right = is_right_plan(system, store, value)
                seen[right] += 1
                self.assertIs(is_plan(system, store, value), right)
                if not right:
                    self.refused(InvalidPlan, value, lot_of_plan, system, store, value)
                    self.refused(InvalidPlan, value, Guide, system, store, value)
            self.assertEqual(plan, before)
        self.assertGreater(min(seen.values()), 10)

    def test_values_of_all_kinds(self):
        system = read_system(BITS + "unit u { } unit g { call u choose x { } or y { } }")
        for value in any_values():
            self.assertIs(is_plan(system, 0, value), False)
            for wrong in (value, ((0,), value), (value, {"u": [[()]] * 4} if value != (1,) else {})):
                self.refused(InvalidPlan, wrong, lot_of_plan, system, 0, wrong)
                self.refused(InvalidPlan, wrong, Guide, system, 0, wrong)
        self.assertTrue(is_plan(system, 0, ((1,), {"u": [[()]] * 4})))


class Playing:
    """A game that is played by a plan: frames with walks, places and picks by rows."""

    def __init__(self, system, store, plan):
        self.system, self.plan, self.store, self.frames = system, plan, store, []
        self.begin(system[1][-1][0], plan[0])

    def begin(self, unit, pick):
        walk = walks_below(self.system, dict(self.system[1])[unit])
        place = walk.first(self.store)
        self.frames.append([walk, dict(zip(walk.choices(place), pick)), place])
        self.come(place)

    def come(self, place):
        self.frames[-1][2] = place
        self.store = place[1] if isinstance(place, tuple) else place

    def told(self):
        walk, picks, place = self.frames[-1]
        return picks.get(place, 0)

    def take(self, line):
        """Goes on by a line of play."""
        walk, picks, place = self.frames[-1]
        word, rest = line.split(" ")[0], line.split(" ")[1:]
        if word == "call":
            self.begin(rest[0], self.plan[1][rest[0]][place[1]][self.told()])
        elif word == "back":
            self.frames.pop()
            if self.frames:
                walk, picks, place = self.frames[-1]
                self.come(walk.behind(place[0], self.store))
        else:
            statement = statement_at(walk, place)
            if word == "choose":
                index = [label for label, _ in statement[1]].index(rest[0])
                self.come(walk.place(walk.inside(place[0], index), place[1]))
            elif word == "loop":
                self.come(walk.place(walk.inside(place[0], 0), place[1]))
            else:
                value = [value for value, weight in statement[2] for _ in range(weight)][int(rest[0])]
                self.come(walk.behind(place[0], walk.given(place[1], statement[1], value)))

    def label(self):
        """The label of the plan where a label is asked for, else None."""
        if not self.frames or not isinstance(self.frames[-1][2], tuple):
            return None
        walk, _, place = self.frames[-1]
        statement = statement_at(walk, place)
        return statement[1][self.told()][0] if statement[0] == "choose" else None

    def asks(self):
        if not self.frames or not isinstance(self.frames[-1][2], tuple):
            return None
        return statement_at(self.frames[-1][0], self.frames[-1][2])


def statement_at(walk, place):
    return part_at(walk.body, place[0])


class GuideTests(OddsTests):
    def test_against_play(self):
        random, labels = Random(257), 0
        for _, system, store, walk in cases(258, 120, most=6):
            plan = (random.choice(walk.picks(walk.first(store))), other_corner_picks(random, system))
            guide = Guide(system=system, store=store, plan=plan)
            for _ in range(4):
                answers = []
                for _ in range(random.randrange(10)):
                    lines, end = play(system, store, answers, 2000)
                    playing = Playing(system, store, plan)
                    for line in lines:
                        playing.take(line)
                    expected = playing.label() if end is None and len(lines) < 2000 else None
                    self.assertEqual(guide.label_for(answers=answers), expected)
                    self.assertEqual(guide.label_for(tuple(answers)), expected)
                    statement = playing.asks()
                    if end is not None or len(lines) == 2000:
                        self.assertIsNone(guide.label_for([*answers, None, "left over"]))
                        break
                    labels += expected is not None
                    if statement[0] == "choose":
                        answers.append(expected if random.random() < 0.6 else random.choice(statement[1])[0])
                    else:
                        answers.append(random.randrange(sum(weight for _, weight in statement[2])))
                    parts = sum(weight for _, weight in statement[2]) if statement[0] == "draw" else 0
                    for wrong in [*random.sample([*any_values(), "zz", -1, True, 99], 4), parts, parts + 1]:
                        self.wrong_answer(guide, system, store, [*answers[:-1], wrong])
            self.assertEqual(guide.label_for([]), Guide(system, store, plan).label_for([]))
        self.assertGreater(labels, 80)

    def wrong_answer(self, guide, system, store, answers):
        try:
            play(system, store, answers, 2000)
        except InvalidAnswer:
            self.refused(InvalidAnswer, answers, guide.label_for, answers)
        else:
            guide.label_for(answers)

    def test_values_of_all_kinds(self):
        system = read_system("name a 3 unit u { choose x { set a = 0 } or y { set a = 1 } } unit g { call u while a < 2 { choose p { set a = 2 } or q { } } }")
        guide = Guide(system, 0, ((1, 0, 1), corner_picks(system)))
        for value in any_values():
            if not isinstance(value, (list, tuple)):
                self.refused(InvalidAnswer, value, guide.label_for, value)
            answers = [value]
            self.refused(InvalidAnswer, answers, guide.label_for, answers)
        self.assertEqual(guide.label_for(["x", "p", None, 3]), None)
        self.assertEqual([guide.label_for(one) for one in ([], ["x"], ["y"], ["x", "q"], ["y", "p"], ["y", "q"])], ["x", "p", "q", "p", None, "q"])

    def test_two_thousand_steps(self):
        system = read_system("name a 2 unit g { while a = 0 { choose x { } or y { set a = 1 } } }")
        guide = Guide(system, 0, ((1,), {}))
        self.assertEqual(guide.label_for(["x"] * 999), "y")
        self.assertIsNone(guide.label_for(["x"] * 1000))
        self.assertIsNone(guide.label_for(["x"] * 1000 + [None]))
        self.assertIsNone(guide.label_for(["x"] * 999 + ["y"]))
        self.refused(InvalidAnswer, None, guide.label_for, None)
        # a choose at which 2000 steps are taken
        odd = read_system("name a 2 unit g { choose s { } or t { } while a = 0 { choose x { } or y { set a = 1 } } }")
        guide = Guide(odd, 0, ((0, 1), {}))
        self.assertIsNone(guide.label_for(["s"] + ["x"] * 999))
        self.assertEqual(guide.label_for(["s"] + ["x"] * 998), "y")

    def test_a_plan_that_is_changed(self):
        system = read_system("name a 2 unit u { choose x { set a = 0 } or y { set a = 1 } } unit g { call u }")
        plan = ((1, 1), corner_picks(system))
        plan = (plan[0][:1], plan[1])
        guide = Guide(system, 0, plan)
        first = [guide.label_for([]), Guide(system, 0, ((1 - plan[0][0],), plan[1])).label_for([])]
        self.assertEqual(sorted(first), ["x", "y"])
        plan[1]["u"][0].reverse()
        plan[1]["u"].clear()
        plan[1].clear()
        self.assertEqual([guide.label_for([]), guide.label_for(["x"]), guide.label_for([])], [first[0], None, first[0]])


def is_right_best(walk, place, payoff, value):
    if not is_tuple(value, 3) or not (judges.is_int(value[0]) or type(value[0]) is Ratio) or not judges.is_pick(walk, place, value[1]):
        return False
    if not judges.is_table(walk, place, payoff, value[2]):
        return False
    numbers = {**{outcome: Fraction(one) for outcome, one in enumerate(payoff)}, **{row: fraction(one) for row, one in value[2]}}
    told = dict(zip(walk.choices(place), value[1]))
    return numbers[place] == fraction(value[0]) and are_moves(walk, place, numbers, [(row, told.get(row, 0)) for row in walk.met(place)])


class BestTests(OddsTests):
    def test_against_all_picks(self):
        for random, system, store, walk in cases(259, 150):
            place = walk.first(store)
            told = {unit: summary(system, unit) for unit in called_units(system)}
            for _ in range(3):
                payoff = some_payoff(random, walk.never)
                value = best_plan(system=system, store=store, payoff=payoff)
                self.assertEqual([type(part) for part in value], [tuple, list] if len(value) == 2 else [Ratio, tuple, list])
                self.assertEqual(fraction(value[0]), max(walk.mean(place, pick, payoff) for pick in walk.picks(place)))
                self.assertEqual(value[0], best(system, system[1][-1][0], store, told, payoff))
                self.assertEqual(value[2], table(system, system[1][-1][0], store, told, payoff))
                self.assertTrue(is_right_best(walk, place, payoff, value))
                self.assertIs(is_best_plan(system=system, store=store, payoff=payoff, value=value), True)
                for row, number in value[2]:
                    own = dict(zip(walk.choices(place), value[1]))
                    pick = tuple(own[one] for one in walk.choices(row))
                    self.assertEqual(walk.mean(row, pick, payoff), fraction(number))
                all_new(self, value, best_plan(system, store, tuple(payoff)))
                self.assertTrue(is_plan(system, store, (value[1], corner_picks(system))))

    def test_spoiled(self):
        seen = {True: 0, False: 0}
        for random, system, store, walk in cases(260, 60):
            place, payoff = walk.first(store), some_payoff(random, walk.never)
            value = best_plan(system, store, payoff)
            whole = [(row, number.top if number.bottom == 1 else number) for row, number in value[2]]
            self.assertTrue(is_best_plan(system, store, payoff, (value[0], value[1], tuple(whole))))
            spoils = list(spoiled(value, OTHERS))
            for pick in random.sample(walk.picks(place), min(5, walk.count(place))):
                spoils.append((value[0], pick, value[2]))
                means = [(row, walk.mean(row, tuple(dict(zip(walk.choices(place), pick))[one] for one in walk.choices(row)), payoff)) for row in walk.met(place)]
                own = [(row, Ratio(number.numerator, number.denominator)) for row, number in means]
                spoils += [(dict(own).get(place, Ratio(payoff[place] if isinstance(place, int) else 0)), pick, own)] * 3
            for one in random.sample(spoils, min(40, len(spoils))):
                right = is_right_best(walk, place, payoff, one)
                seen[right] += 1
                self.assertIs(is_best_plan(system, store, payoff, one), right)
        self.assertGreater(min(seen.values()), 100)

    def test_staying(self):
        system = read_system("name a 2 unit g { while a = 0 { choose x { } or y { set a = 1 } } }")
        rows = [((0,), 0), ((0, 0, 0), 0)]
        for payoff, number, pick in [([0, 1, 2], 2, (0,)), ([0, 2, 1], 2, (1,)), ([0, 0, -1], 0, (1,)), ([9, -3, -2], -2, (0,))]:
            value = best_plan(system, 0, payoff)
            self.assertEqual(value, (number, pick, [(row, number) for row in rows]))
            self.assertFalse(is_best_plan(system, 0, payoff, (number, (1 - pick[0],), value[2])))
            self.assertFalse(is_best_plan(system, 0, payoff, (number + 1, pick, [(row, number + 1) for row in rows])))

    def test_values_of_all_kinds(self):
        system = read_system("name a 2 unit g { while a = 0 { choose x { } or y { set a = 1 } } }")
        for value in [*any_values(), *[(1, (0,), value) for value in any_values()], *[(1, value, []) for value in any_values()]]:
            self.assertIs(is_best_plan(system, 0, [0, 1, 2], value), False)


class LossTests(OddsTests):
    def test_store_by_store(self):
        random, seen = Random(261), {True: 0, False: 0}
        while min(seen.values()) < 30:
            maker = HouseMaker(random, 4)
            system = maker.system(random.randrange(1, 4))
            unit = random.choice(system[1])[0]
            body = random.choice(list(patches(random, maker, system, unit)))
            payoff = some_payoff(random, walks_never(system))
            try:
                changed = with_body(system, unit, body)
                expected = [best_plan(system, store, payoff)[0] - best_plan(changed, store, payoff)[0] for store in range(walks_never(system))]
                stands = stands_for(system, unit, body)
            except PatchError:
                continue
            told = loss(system=system, unit=unit, body=body, payoff=payoff)
            self.assertEqual(told, expected)
            self.assertTrue(all(type(one) is Ratio for one in told))
            all_new(self, told, loss(system, unit, body, tuple(payoff)))
            seen[stands] += 1
            if stands:
                self.assertFalse(any(one.below(0) for one in told))

    def test_a_refusal(self):
        system = read_system(BITS + "unit u { draw a 0 by 1 1 by 1 } unit g { call u set a = 0 }")
        body = (("choose", (("x", (("set", "a", ("num", 0)),)), ("y", (("set", "a", ("num", 1)),)))),)
        word, store, pick, payoff, numbers = paper_for(system, "u", body)
        self.assertEqual(word, "no")
        self.assertTrue(loss((system[0], system[1][:1]), "u", body, payoff)[store].below(0))
        self.assertEqual(loss(system, "u", body, payoff), [0, 0, 0, 0])

    def test_errors(self):
        system = read_system(EIGHT + LOW + RICH + "unit u { } unit v { } unit g { call u }")
        payoff = [0] * 9
        for value in any_values():
            if not is_tree(value):
                self.refused(InvalidSystem, value, loss, value, None, None, None)
            self.refused(InvalidUnit, value, loss, system, value, None, None)
            if value != ():
                self.refused(InvalidBody, value, loss, system, "u", value, None)
            self.refused(InvalidPayoff, value, loss, system, "u", (), value)
        self.raised(NotFair, {"reason": "call", "unit": "u", "word": "v"}, loss, system, "u", (("call", "v"),), None)
        self.raised(TooMany, {"count": 128}, loss, system, "u", (("call", "low"),), payoff)
        self.raised(TooRich, {"unit": "rich", "store": 1, "count": 7}, loss, system, "u", (("call", "rich"),), payoff)
        self.raised(TooMany, {"count": 128}, loss, system, "g", (("call", "rich"), ("call", "low")), payoff)
        rich = with_body(system, "u", (("call", "rich"),))
        # the system as it is comes ahead of the other one
        self.raised(TooRich, {"unit": "rich", "store": 1, "count": 7}, loss, rich, "u", (("call", "low"),), payoff)
        self.assertEqual(loss(system, "v", (("call", "low"),), payoff), [0] * 8)
        rows = read_system(straight(65))
        self.raised(TooMany, {"count": 65}, loss, rows, "g", (), payoff)
        self.raised(TooMany, {"count": 65}, loss, with_body(rows, "g", ()), "g", rows[1][0][1], payoff)


def walks_never(system):
    never = 1
    for _, size in system[0]:
        never *= size
    return never


class ErrorTests(OddsTests):
    def calls(self, payoff=None, value=None):
        """All functions with a store, with the arguments behind it."""
        return [(odds, ()), (is_plan, (value,)), (lot_of_plan, (value,)), (Guide, (value,)), (best_plan, (payoff,)), (is_best_plan, (payoff, value))]

    def test_systems_and_stores(self):
        system = read_system(BITS + "unit low { " + TWO * 7 + "} unit g { call low }")
        for call, last in self.calls():
            for value in any_values():
                if not is_tree(value):
                    self.refused(InvalidSystem, value, call, value, None, *last)
            for value in [*any_values(), *wrong_numbers(4)]:
                if type(value) is not int or not 0 <= value < 4:
                    self.refused(InvalidStore, value, call, system, value, *last)
            self.raised(NotFair, {"reason": "call", "unit": "g", "word": "g"}, call, read_system("name a 2 unit g { call g }"), None, *last)
        for call, last in [(best_plan, ()), (is_best_plan, (None,))]:
            for value in [*any_values(), [0] * 4, [0] * 6, [0, 0, 0, 0, True], [0, 0, 0, 0, Ratio(0)]]:
                self.refused(InvalidPayoff, value, call, system, 0, value, *last)
        for value in any_values():
            if not is_fair(value):
                self.refused(InvalidSystem, value, corner_picks, value) if not is_tree(value) else None

    def test_bounds(self):
        good = (0, (), [])
        for text, error, attributes in [
            (EIGHT + LOW + RICH + "unit v { call rich } unit w { call low } unit g { call v call w }", TooMany, {"count": 128}),
            (EIGHT + RICH + LOW + "unit v { call rich } unit w { call low } unit g { call w call v }", TooRich, {"unit": "rich", "store": 1, "count": 7}),
        ]:
            system = read_system(text)
            for call, last in self.calls(payoff=[0] * 9):
                self.raised(error, attributes, call, system, 0, *last)
            self.raised(error, attributes, corner_picks, system)
            # bounds of units that the game does not call do not matter
            for call, last in self.calls(payoff=[0] * 9, value=good)[4:]:
                call(with_body(system, "g", ()), 0, *last)
            self.assertEqual(odds(with_body(system, "g", ()), 0)[0], (1, 1))
            self.assertEqual(corner_picks(with_body(system, "g", ())), {})
            self.assertTrue(is_plan(with_body(system, "g", ()), 0, ((), {})))

    def test_rows(self):
        for rows in (64, 65):
            system = read_system(straight(rows))
            for call, last in self.calls(payoff=[0] * 9):
                if rows == 65:
                    self.raised(TooMany, {"count": 65}, call, system, 0, *last)
            self.assertEqual(odds(system, 4)[4], (1, 1))
        self.assertEqual(len(best_plan(read_system(straight(64)), 0, [1] * 9)[2]), 64)
        called = read_system(straight(65).replace("unit g", "unit u") + " unit g { }")
        self.assertEqual(corner_picks(called), {})
        self.raised(TooMany, {"count": 65}, corner_picks, with_body(called, "g", (("call", "u"),)))

    def test_too_great(self):
        system = read_system(GREAT + "unit ud { call uc }")
        for call, last in self.calls(payoff=[0] * 5):
            self.raised(TooGreat, {"unit": "uc", "store": 1}, call, system, 0, *last)
        system = (system[0], system[1][:3])
        plan = ((), corner_picks(system))
        self.assertTrue(is_plan(system, 1, plan))
        self.raised(TooGreat, {"unit": "uc", "store": 1}, lot_of_plan, system, 1, plan)
        self.refused(InvalidPlan, None, lot_of_plan, system, 1, None)
        self.assertEqual(lot_of_plan(system, 0, plan), (1, 0, 0, 0, 0))
        self.assertEqual(best_plan(system, 1, [3] * 5)[0], 3)


class SpeedTests(OddsTests):
    def test_thousands_of_picks(self):
        loop = "while a < 3 { choose x { draw a 0 by 1 1 by 3 3 by 1 } or y { set a = a + 1 draw b 0 by 2 1 by 5 } or z { draw a 0 by 3 2 by 1 draw b 0 by 1 1 by 1 } " \
            "choose p { draw b 1 by 2 0 by 5 } or q { set b = 1 - b draw a 0 by 1 2 by 7 } }"
        system = read_system("name a 4 name b 2 unit g { " + loop + " }")
        payoff = [1, 2, 3, 4, 5, 6, 7, 8, -3]
        begun = time.perf_counter()
        odds(system, 0)
        value = best_plan(system, 0, payoff)
        self.assertTrue(is_best_plan(system, 0, payoff, value))
        self.assertLess(time.perf_counter() - begun, 0.5)


if __name__ == "__main__":
    unittest.main()
