"""Houses at random, deeds in them, and what can still come in a game: a walk through all calls at once."""

from fractions import Fraction
from functools import lru_cache

from fairpatch.errors import NotLet, PatchError
from fairpatch.forward import summary
from fairpatch.house import House
from fairpatch.ratios import Ratio
from fairpatch.registry import Registry
from tests import judges
from tests.judges import fraction, is_int, is_list, is_tuple
from tests.small import SmallMaker
from tests.test_stands import patches, with_part
from tests.walks import Walk, part_at, paths_of

LOOP = "name hp 3 unit game { while hp < 2 { choose up { set hp = hp + 1 } or wait { } } }"
CLUB = ("name hp 3 unit roll { choose low { draw hp 0 by 1 1 by 3 } or high { draw hp 1 by 1 2 by 2 } } "
        "unit turn { while hp < 2 { call roll choose stop { set hp = 2 } or more { } } } unit game { call turn call roll }")


class HouseMaker(SmallMaker):
    """Small systems of one to four units."""

    def system(self, units=None):
        names = self.names()
        words = self.random.sample(["roll", "turn", "game", "hit", "end"], units or self.random.randrange(1, 5))
        return (names, tuple((word, self.body(names, words[:at])) for at, word in enumerate(words)))


def unroll(random, body):
    """A body with one of its while unrolled once, if it has one."""
    loops = [path for path in paths_of(body) if part_at(body, path)[0] == "while"]
    if not loops:
        return body
    path = random.choice(loops)
    statement = part_at(body, path)
    return with_part(body, path, (("if", statement[1], (*statement[2], statement), ()),))


def renamed(body):
    """A body with other labels, in another order."""
    found = []
    for statement in body:
        if statement[0] == "choose":
            statement = ("choose", tuple((f"n{label}"[:8].replace("n", "k"), renamed(part)) for label, part in reversed(statement[1])))
        elif statement[0] == "if":
            statement = (*statement[:2], renamed(statement[2]), renamed(statement[3]))
        elif statement[0] == "while":
            statement = (*statement[:2], renamed(statement[2]))
        found.append(statement)
    return tuple(found)


def with_calls(random, body, ahead):
    """A body with a call put in somewhere, if there is a unit ahead."""
    at = random.randrange(len(body) + 1)
    return (*body[:at], ("call", random.choice(ahead)), *body[at:]) if ahead else body


def some_bodies(random, maker, registry, unit):
    """Bodies for a unit that may be let by, and others."""
    system = registry.published()
    ahead = [word for word, _ in system[1]]
    ahead = ahead[:ahead.index(unit)]
    elder = random.choice(registry.editions(unit))[1]
    return [*patches(random, maker, system, unit), unroll(random, elder), renamed(elder), with_calls(random, elder, ahead), elder]


def try_exchange(random, maker, registry):
    """One exchange at random: "yes" if it is let by, "no" if it is refused by NotLet, "err" for other errors."""
    system = registry.published()
    unit = random.choice(system[1])[0]
    body = random.choice(some_bodies(random, maker, registry, unit))
    try:
        registry.exchange(unit, body)
        return "yes"
    except NotLet:
        return "no"
    except PatchError:
        return "err"


def small_registry(random, units=None, most=4, sizes=None, tries=8, maker=None):
    """A registry of a system that can be judged, with some editions."""
    maker = maker or HouseMaker(random, most, sizes)
    while True:
        registry = Registry(maker.system(units))
        try:
            for unit, _ in registry.published()[1]:
                summary(registry.published(), unit)
        except PatchError:
            continue
        for _ in range(tries):
            try_exchange(random, maker, registry)
        return registry


def some_answer(random, asked):
    if asked[0] == "choose":
        return random.choice(asked[1])
    return random.randrange(asked[1]) if asked[0] == "turn" else None


def places_for(house, game):
    """All tuples (number, place) to which the last call of a game could be moved, let by or not."""
    unit = house.frames(game)[-1][0]
    store, registry, found = house.store_now(game), house.registry, []
    for number, body in registry.editions(unit):
        walk = Walk(registry.published()[0], body)
        found.extend((number, place) for place in [store] + [row for row in walk.all_rows() if row[1] == store])
    return found


def some_deed(random, house, game, moves=0.15, stands=0.2):
    """A step, a move or another edition that stands; tells which it was."""
    registry = house.registry
    if random.random() < stands:
        unit = random.choice(registry.published()[1])[0]
        registry.stand(unit, random.randrange(len(registry.editions(unit))))
        return "stand"
    if random.random() < moves and house.frames(game):
        try:
            house.move(game, *random.choice(places_for(house, game)))
            return "move"
        except NotLet:
            return "refused"
        except PatchError:
            return "err"
    if house.asks(game)[0] == "over":
        return "over"
    asked = house.asks(game)
    house.step(game, some_answer(random, asked))
    return asked[0]


def some_house(random, games=1, steps=8, **named):
    """A house with games that have gone some steps."""
    house = House(small_registry(random, **named))
    never = house.registry.space.never
    for game in range(games):
        house.begin(random.randrange(never))
        for _ in range(random.randrange(steps + 1)):
            some_deed(random, house, game)
    return house


def bodies_in(registry):
    return {(unit, number): body for unit, _ in registry.published()[1] for number, body in registry.editions(unit)}


class Ahead:
    """All that can still come in a game: states are the frames of all calls, with published editions for new ones."""

    def __init__(self, system, bodies=None):
        self.names, self.bodies = system[0], bodies or {(unit, 0): body for unit, body in system[1]}
        self.walks = {key: Walk(self.names, body) for key, body in self.bodies.items()}

    def beginning(self, unit, store, number=0):
        return ((unit, number, self.walks[(unit, number)].first(store)),)

    def onward(self, state):
        """The moves from a state, each one a dict of chances; a state is a store when the game is over."""
        *below, (unit, number, place) = state
        walk = self.walks[(unit, number)]
        if not isinstance(place, tuple):
            if not below:
                return [{place: Fraction(1)}]
            *lower, (caller, at, row) = below
            return [{(*lower, (caller, at, self.walks[(caller, at)].behind(row[0], place))): Fraction(1)}]
        statement = part_at(self.bodies[(unit, number)], place[0])
        if statement[0] == "call":
            return [{(*state, *self.beginning(statement[1], place[1])): Fraction(1)}]
        return [{(*below, (unit, number, further)): chance for further, chance in move.items()} for move in walk.moves(place)]

    def states(self, state, most):
        found, waiting = {}, [state]
        while waiting:
            one = waiting.pop()
            if not isinstance(one, tuple) or one in found:
                continue
            found[one] = self.onward(one)
            if len(found) > most:
                return None
            waiting.extend(further for move in found[one] for further in move)
        return found

    def best(self, state, payoff, most=600):
        """Nearly the greatest mean of a payoff, rounds of values until they stay; None for too many states."""
        found = self.states(state, most)
        if found is None:
            return None
        never = payoff[-1]
        values = {one: 0.0 for one in found}
        moves = {one: [[(further, float(chance)) for further, chance in move.items()] for move in told] for one, told in found.items()}
        for _ in range(20000):
            change = 0.0
            for one, told in moves.items():
                fresh = max(sum(chance * (values[further] if isinstance(further, tuple) else payoff[further] - never)
                                for further, chance in move) for move in told)
                change = max(change, abs(fresh - values[one]))
                values[one] = fresh
            if change < 1e-12:
                return values[state] + never
        return None


def worth_ahead(house, game, payoff, most=600):
    """The worth of a game by the walk through all calls."""
    if not house.frames(game):
        return payoff[house.store_now(game)]
    return Ahead(house.registry.published(), bodies_in(house.registry)).best(tuple(house.frames(game)), payoff, most)


class KeptWalk(Walk):
    """A walk that keeps what it has worked out."""

    def __init__(self, *arguments):
        super().__init__(*arguments)
        self.moves_kept, self.met_kept = {}, {}

    def moves(self, row):
        if row not in self.moves_kept:
            self.moves_kept[row] = super().moves(row)
        return self.moves_kept[row]

    def met(self, place):
        if place not in self.met_kept:
            self.met_kept[place] = super().met(place)
        return self.met_kept[place]


@lru_cache(maxsize=200)
def walks_below(system, body):
    """The walk of a body over the summaries of published units."""
    called = {part_at(body, path)[1] for path in paths_of(body) if part_at(body, path)[0] == "call"}
    return KeptWalk(system[0], body, {unit: summary(system, unit) for unit in called})


def goes_by_behind(walk, row, numbers, payoff):
    path, store = row
    lots = walk.summaries[part_at(walk.body, path)[1]][store]
    told = [numbers[walk.behind(path, end)] if any(lot[end] for lot in lots) else Fraction(payoff[-1]) for end in range(walk.never)]
    return [*told, Fraction(payoff[-1])]


def judged_tables(house, game, payoff, tables):
    """The number that tables of all frames show, None if they are none."""
    frames, goes_by, number = house.frames(game), [Fraction(one) for one in payoff], None
    if not is_list(tables, len(frames)):
        return None
    found = []
    for at, (unit, edition, place) in enumerate(frames):
        walk = walks_below(house.registry.published(), house.registry.body_at(unit, edition))
        if not judges.is_table(walk, place, goes_by, tables[at]):
            return None
        numbers = {**dict(enumerate(goes_by)), **{row: fraction(number) for row, number in tables[at]}}
        found.append((walk, place, numbers))
        number = numbers[place]
        if at + 1 < len(frames):
            goes_by = goes_by_behind(walk, place, numbers, payoff)
    return (number if frames else Fraction(payoff[house.store_now(game)])), found


def is_number(value):
    return is_int(value) or type(value) is Ratio


def is_bound(house, game, payoff, value):
    if not is_tuple(value, 2) or not is_number(value[0]):
        return False
    judged = judged_tables(house, game, payoff, value[1])
    return judged is not None and judged[0] == fraction(value[0])


def are_moves(walk, place, numbers, value):
    """Whether a value tells for each row met a move that has just its number, and never's where none ends."""
    rows = walk.met(place)
    if not is_list(value, len(rows)):
        return False
    moves = {}
    for item, row in zip(value, rows):
        if not is_tuple(item, 2) or not judges.same_row(item[0], row) or not is_int(item[1]) or not 0 <= item[1] < len(walk.moves(row)):
            return False
        moves[row] = walk.moves(row)[item[1]]
        if sum(chance * numbers[further] for further, chance in moves[row].items()) != numbers[row]:
            return False
    ending, more = set(), True
    while more:
        more = {row for row, move in moves.items() if row not in ending
                and any(not isinstance(further, tuple) or further in ending for further in move)}
        ending |= more
    return all(numbers[row] == numbers[walk.never] for row in rows if row not in ending)


def is_worth_paper(house, game, payoff, value):
    if not is_tuple(value, 2) or not is_number(value[0]) or not is_list(value[1]) or not all(is_tuple(one, 2) for one in value[1]):
        return False
    judged = judged_tables(house, game, payoff, [table for table, _ in value[1]])
    if judged is None or judged[0] != fraction(value[0]):
        return False
    return all(are_moves(*told, moves) for told, (_, moves) in zip(judged[1], value[1]))


def wrong_numbers(many):
    """Values that are no number from 0 to below many."""
    return [many, -1, True, False, "0", "", None, Ratio(0), Ratio(1, 2), (), [0], {"a": 0}, 10 ** 30]
