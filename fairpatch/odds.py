"""Odds of outcomes, plans that can be played, and best plans."""

from fairpatch.bests import are_best_moves, best_way, is_payoff, numbers_told
from fairpatch.checks import check_system, with_body
from fairpatch.errors import InvalidAnswer, InvalidPayoff, InvalidPlan
from fairpatch.going import TextGame
from fairpatch.grounds import Ground
from fairpatch.plain import MOST_STEPS
from fairpatch.ratios import as_ratio, is_number
from fairpatch.spaces import Space
from fairpatch.wholes import is_whole_from


def ground_with(system, store):
    """The Ground of a system, if it is fair and has the store."""
    check_system(system)
    Space(system[0]).check_store(store)
    return Ground(system)


def check_payoff(ground, payoff):
    """Raises InvalidPayoff unless this is a payoff for the system of a ground."""
    if not is_payoff(payoff, ground.never):
        raise InvalidPayoff(payoff)


def game_outset(ground, store):
    """The Outset of the last unit from a store; raises the bounds."""
    return ground.site_of(ground.game_unit).outset_from(store)


def greatest(outset, payoff):
    """The greatest mean of a payoff by what an outset brings, a Ratio."""
    return best_way(outset, payoff)[1][outset.number_of_place(outset.place)]


def odds(system, store):
    """The list of the tuples of the least and the greatest share of each outcome."""
    outset = game_outset(ground_with(system, store), store)
    found = []
    for outcome in range(outset.never + 1):
        share = [1 if at == outcome else 0 for at in range(outset.never + 1)]
        least = -greatest(outset, [-part for part in share])
        found.append((least, greatest(outset, share)))
    return found


def called_below(ground):
    """A dict of the summaries of the called units of the game of a ground, in the order of the system."""
    return ground.told_below([ground.bodies[ground.game_unit]])


def corner_picks(system):
    """A dict of the least picks of all corners of the called units, for each store."""
    check_system(system)
    ground = Ground(system)
    found = {}
    for unit, told in called_below(ground).items():
        by_store = [ground.site_of(unit).outset_from(store).picks_by_lot() for store in range(ground.never)]
        found[unit] = [[by_lot[lot] for lot in lots] for by_lot, lots in zip(by_store, told)]
    return found


def are_picks_for(outset, lots, value):
    """Whether any value is a list of picks of an outset with these lots, in their order."""
    if not isinstance(value, (list, tuple)) or len(value) != len(lots):
        return False
    for pick, lot in zip(value, lots):
        if not outset.is_pick(pick) or outset.lot_by(pick) != lot:
            return False
    return True


def are_corner_picks(ground, value):
    """Whether any value is a dict of corner picks."""
    called = called_below(ground)
    if not isinstance(value, dict) or len(value) != len(called):
        return False
    for unit, told in called.items():
        if unit not in value or not isinstance(value[unit], (list, tuple)) or len(value[unit]) != len(told):
            return False
        site = ground.site_of(unit)
        for store, lots in enumerate(told):
            if not are_picks_for(site.outset_from(store), lots, value[unit][store]):
                return False
    return True


def is_plan_from(ground, outset, value):
    """Whether any value is a plan for the store from which the Outset of the last unit begins."""
    if not isinstance(value, tuple) or len(value) != 2 or not outset.is_pick(value[0]):
        return False
    return are_corner_picks(ground, value[1])


def is_plan(system, store, value):
    """Whether any value is a plan for a store."""
    ground = ground_with(system, store)
    return is_plan_from(ground, game_outset(ground, store), value)


def lot_of_plan(system, store, plan):
    """The lot of the outcomes of a game that is played by a plan."""
    ground = ground_with(system, store)
    outset = game_outset(ground, store)
    if not is_plan_from(ground, outset, plan):
        raise InvalidPlan(plan)
    lot = outset.lot_by(plan[0])
    outset.check_lot(lot)
    return lot


class Guide:
    """Tells what a plan answers."""

    def __init__(self, system, store, plan):
        ground = ground_with(system, store)
        if not is_plan_from(ground, game_outset(ground, store), plan):
            raise InvalidPlan(plan)
        self.ground = ground
        self.store = store
        self.pick = plan[0]
        # a plan that is changed later changes nothing here
        self.picks_by_unit = {unit: [list(part) for part in parts] for unit, parts in plan[1].items()}

    def label_for(self, answers):
        """The label that the plan takes behind these answers, if a label is asked for there, or None."""
        if not isinstance(answers, (list, tuple)):
            raise InvalidAnswer(answers)
        walk = PlanWalk(self.ground, self.store, self.picks_by_unit, self.pick)
        taken = 0
        for _ in range(MOST_STEPS):
            asked = walk.game.asks()
            if asked[0] not in ("choose", "turn"):
                if asked[0] == "over":
                    return None
                walk.go()
            elif taken == len(answers):
                return walk.label(asked)
            else:
                if not is_item(asked, answers[taken]):
                    raise InvalidAnswer(answers)
                walk.game.step(answers[taken])
                taken += 1
        return None


def is_item(asked, value):
    """Whether any value answers what is asked, a label or a part of a wheel."""
    if asked[0] == "choose":
        return value in asked[1]
    return is_whole_from(value, 0, asked[1] - 1)


class PlanWalk:
    """A game, and for each of its calls the index of a move that its pick tells for each choice row."""

    def __init__(self, ground, store, picks_by_unit, pick):
        self.ground = ground
        self.picks_by_unit = picks_by_unit
        self.game = TextGame(store)
        self.indices = []
        self.begin_call(ground.game_unit, pick)

    def begin_call(self, unit, pick):
        """Begins a call that goes by a pick."""
        outset = self.ground.site_of(unit).outset_from(self.game.store)
        self.indices.append({outset.row_of(number): index for number, index in zip(outset.choices, pick)})
        self.game.begin(unit, 0, outset.web.flow)

    def index_now(self):
        """The index of the move that the last call takes where it stands."""
        return self.indices[-1].get(self.game.frames()[-1][2], 0)

    def go(self):
        """Goes on at a loop, at a call and at a back."""
        asked = self.game.asks()
        if asked[0] == "call":
            unit = asked[1]
            self.begin_call(unit, self.picks_by_unit[unit][self.game.store][self.index_now()])
            return
        if asked[0] == "back":
            self.indices.pop()
        self.game.step(None)

    def label(self, asked):
        """The label that the plan takes, or None if no label is asked for."""
        if asked[0] == "choose":
            return asked[1][self.index_now()]
        return None


def best_plan(system, store, payoff):
    """The greatest mean of a payoff, a pick that has it from wherever it is played, and the least table."""
    ground = ground_with(system, store)
    check_payoff(ground, payoff)
    outset = game_outset(ground, store)
    indices, numbers = best_way(outset, payoff)
    pick = tuple([indices[number] for number in outset.choices])
    table = [(row, numbers[outset.numbers[row]]) for row in outset.rows]
    return numbers[outset.number_of_place(outset.place)], pick, table


def is_best_plan(system, store, payoff, value):
    """Whether any value is a number, a pick and a table that show each other to be the best."""
    ground = ground_with(system, store)
    check_payoff(ground, payoff)
    outset = game_outset(ground, store)
    if not isinstance(value, tuple) or len(value) != 3:
        return False
    number, pick, table = value
    if not is_number(number) or not outset.is_pick(pick):
        return False
    numbers = numbers_told(outset, payoff, table)
    if numbers is None or numbers[outset.number_of_place(outset.place)] != as_ratio(number):
        return False
    return are_best_moves(outset, numbers, dict(zip(outset.choices, pick)))


def best_numbers(ground, payoff):
    """The list of the greatest means of a payoff for all stores; raises the bounds."""
    outsets = [game_outset(ground, store) for store in range(ground.never)]
    return [greatest(outset, payoff) for outset in outsets]


def loss(system, unit, body, payoff):
    """The list of what the best means of a payoff lose, for all stores, if a unit gets another body."""
    changed = with_body(system, unit, body)
    ground = Ground(system)
    check_payoff(ground, payoff)
    ahead = best_numbers(ground, payoff)
    behind = best_numbers(Ground(changed), payoff)
    return [number - other for number, other in zip(ahead, behind)]
