"""The worth of games that go on while units are exchanged, with papers that show it."""

from fairpatch.bests import are_best_moves, best_way, is_payoff, numbers_told
from fairpatch.errors import InvalidPayoff
from fairpatch.ratios import as_ratio, is_number
from fairpatch.wholes import is_whole_from


def check_payoff(house, payoff):
    """Raises InvalidPayoff unless this is a payoff for the games of a house."""
    if not is_payoff(payoff, house.registry.space.never):
        raise InvalidPayoff(payoff)


def outset_of_frame(registry, frame):
    """The Outset from the place at which a call stands; raises the bounds."""
    unit, number, place = frame
    return registry.site_at(unit, number).outset_at(place)


def numbers_behind(outset, row, numbers, payoff):
    """What the next call goes by, if one waits at a row that can be met in an outset, and the numbers are told.

    A store in which the called unit cannot end counts as never.
    """
    web = outset.web
    path, store = row
    lots = web.lots_told[web.flow.by_path[path][1]][store]
    found = []
    for outcome in range(outset.never):
        number = payoff[outset.never]
        if max([lot[outcome] for lot in lots]) > 0:
            number = numbers[outset.number_of_place(web.place_behind_call(path, outcome))]
        found.append(number)
    return [*found, payoff[outset.never]]


class Level:
    """A call with what it goes by, and the best indices and the least numbers from its place."""

    def __init__(self, registry, frame, goes_by):
        self.frame = frame
        self.goes_by = goes_by
        self.outset = outset_of_frame(registry, frame)
        self.indices, self.numbers = best_way(self.outset, goes_by)

    def serves(self, frame, goes_by):
        """Whether a call goes on here: in the same edition, at a place that has a number, by the same numbers."""
        return self.frame[:2] == frame[:2] and self.goes_by == goes_by and self.has_number(frame[2])

    def has_number(self, place):
        """Whether a place is a store, or a row that can be met here."""
        return not isinstance(place, tuple) or place in self.outset.numbers

    def number_of(self, place):
        """The least number of a place."""
        return self.numbers[self.outset.number_of_place(place)]


class Worths:
    """The worths of one game for one payoff, behind step after step."""

    def __init__(self, registry, payoff):
        self.registry = registry
        self.payoff = [as_ratio(number) for number in payoff]
        self.known_levels = []

    def worth_of(self, frames, store):
        """The worth where the calls stand so, in a store."""
        number = self.payoff[store]
        goes_by = self.payoff
        for at, frame in enumerate(frames):
            level = self.level_for(at, frame, goes_by)
            number = level.number_of(frame[2])
            if at + 1 < len(frames):
                goes_by = numbers_behind(level.outset, frame[2], level.numbers, self.payoff)
        return number

    def level_for(self, at, frame, goes_by):
        """The Level of a call; one that was worked out ahead of a step serves behind it, too."""
        if at < len(self.known_levels) and self.known_levels[at].serves(frame, goes_by):
            return self.known_levels[at]
        level = Level(self.registry, frame, goes_by)
        self.known_levels = [*self.known_levels[:at], level]
        return level


def worth(house, game, payoff):
    """The greatest mean of a payoff that a player can bring in a game from now on."""
    frames = house.frames(game)
    check_payoff(house, payoff)
    return Worths(house.registry, payoff).worth_of(frames, house.store_now(game))


def worth_paper(house, game, payoff):
    """The worth, and a tuple (table, moves) for each call that shows it."""
    frames = house.frames(game)
    check_payoff(house, payoff)
    worths = Worths(house.registry, payoff)
    number = worths.worth_of(frames, house.store_now(game))
    papers = []
    for level in worths.known_levels:
        rows = level.outset.rows
        table = [(row, level.number_of(row)) for row in rows]
        moves = [(row, level.indices.get(level.outset.numbers[row], 0)) for row in rows]
        papers.append((table, moves))
    return number, papers


def outsets_of_frames(house, game, payoff):
    """The list of the Outsets of all calls of a game; raises what worth raises."""
    frames = house.frames(game)
    check_payoff(house, payoff)
    return [outset_of_frame(house.registry, frame) for frame in frames]


def is_number_with(value):
    """Whether any value is a tuple of a number and a list."""
    return isinstance(value, tuple) and len(value) == 2 and is_number(value[0]) and isinstance(value[1], (list, tuple))


def numbers_by_tables(outsets, payoff, tables):
    """The list of the dicts of all numbers by any values that are tables, one for each outset; else None."""
    if len(tables) != len(outsets):
        return None
    goes_by = payoff
    found = []
    for outset, table in zip(outsets, tables):
        numbers = numbers_told(outset, goes_by, table)
        if numbers is None:
            return None
        found.append(numbers)
        # all calls but the last one wait at a row
        if len(found) < len(outsets):
            goes_by = numbers_behind(outset, outset.place, numbers, payoff)
    return found


def number_by(outsets, found, payoff, store):
    """The number of the place of the last call, or of the store if no call goes on."""
    if not outsets:
        return payoff[store]
    return found[-1][outsets[-1].number_of_place(outsets[-1].place)]


def indices_told(outset, value):
    """A dict of indices for the choice rows by any value that tells a move for each row met; else None."""
    if not isinstance(value, (list, tuple)) or len(value) != len(outset.rows):
        return None
    indices = {}
    for item, row in zip(value, outset.rows):
        if not isinstance(item, tuple) or len(item) != 2 or not outset.web.is_row(item[0]) or item[0] != row:
            return None
        number = outset.numbers[row]
        if not is_whole_from(item[1], 0, len(outset.chain[number]) - 1):
            return None
        indices[number] = item[1]
    return indices


def are_tuples_of_two(value):
    """Whether each item of a list is a tuple of two items."""
    return all([isinstance(item, tuple) and len(item) == 2 for item in value])


def is_bound(house, game, payoff, value):
    """Whether any value is a number with tables that show that no way to go on has a greater mean."""
    outsets = outsets_of_frames(house, game, payoff)
    if not is_number_with(value):
        return False
    found = numbers_by_tables(outsets, payoff, value[1])
    return found is not None and as_ratio(number_by(outsets, found, payoff, house.store_now(game))) == value[0]


def is_worth_paper(house, game, payoff, value):
    """Whether any value is the worth, with papers that show it."""
    outsets = outsets_of_frames(house, game, payoff)
    if not is_number_with(value) or not are_tuples_of_two(value[1]):
        return False
    found = numbers_by_tables(outsets, payoff, [table for table, _ in value[1]])
    if found is None or as_ratio(number_by(outsets, found, payoff, house.store_now(game))) != value[0]:
        return False
    for outset, numbers, (_, moves) in zip(outsets, found, value[1]):
        indices = indices_told(outset, moves)
        if indices is None or not are_best_moves(outset, numbers, indices):
            return False
    return True
