"""Webs: what can happen in the body of a unit if the units that it calls bring told lots."""

from fairpatch.checks import calls_within, check_unit
from fairpatch.errors import InvalidRow, InvalidStore, InvalidSummaries, TooMany
from fairpatch.flow import Flow, place_order
from fairpatch.lots import has_lot_form
from fairpatch.spaces import Space, stores_of_sizes
from fairpatch.wholes import in_lowest_terms, is_whole_from

MOST_ROWS = 64
MOST_CORNERS = 6


def are_told_lots(value, many):
    """Whether any value is a list of one to six different lots on so many outcomes, ascending."""
    if not isinstance(value, (list, tuple)) or not 1 <= len(value) <= MOST_CORNERS:
        return False
    if not all([has_lot_form(lot) and len(lot) == many for lot in value]):
        return False
    return all([value[at] < value[at + 1] for at in range(len(value) - 1)])


def is_told(value, never):
    """Whether any value is a list of such lists, one for each store."""
    if not isinstance(value, (list, tuple)) or len(value) != never:
        return False
    return all([are_told_lots(part, never + 1) for part in value])


def check_summaries(system, body, summaries):
    """Raises InvalidSummaries unless a dict tells the lots of each unit that a body of a fair system calls."""
    if not isinstance(summaries, dict):
        raise InvalidSummaries(summaries)
    never = stores_of_sizes([size for _, size in system[0]])
    for unit in calls_within(system, body):
        if unit not in summaries or not is_told(summaries[unit], never):
            raise InvalidSummaries(summaries)


def merged(ways):
    """The tuple of the tuples (place, weight) of a move, ascending, with one for each place.

    `ways` are such tuples, too, but a place may stand there more often, and a weight may be 0.
    """
    weights = {}
    for place, weight in ways:
        if weight > 0:
            weights[place] = weights.get(place, 0) + weight
    places = sorted(list(weights), key=place_order)
    return tuple(list(zip(places, in_lowest_terms([weights[place] for place in places]))))


class Web:
    """The rows of a body, and the moves from each to the places that come next."""

    def __init__(self, flow, lots):
        self.never = flow.space.never
        self.flow = flow
        self.lots_told = lots
        self.known_moves = {}

    def is_row(self, value):
        """Whether any value is a row."""
        return self.flow.is_place_row(value)

    def is_place(self, value):
        """Whether any value is a row or an outcome."""
        return is_whole_from(value, 0, self.never) or self.is_row(value)

    def first(self, store):
        """The place to which the way from the beginning of the body leads."""
        if not self.flow.is_store(store):
            raise InvalidStore(store)
        return self.flow.place_at_first(store)

    def moves(self, row):
        """The list of the moves of a row, each one a list of tuples (place, weight)."""
        if not self.is_row(row):
            raise InvalidRow(row)
        return [list(move) for move in self.moves_kept(row)]

    def moves_kept(self, row):
        """The tuple of the moves of a row, worked out once."""
        if row not in self.known_moves:
            self.known_moves[row] = tuple([merged(ways) for ways in self.ways_of(row)])
        return self.known_moves[row]

    def ways_of(self, row):
        """The list of the moves of a row, in which a place may stand more than once."""
        path, store = row
        statement = self.flow.by_path[path]
        kind = statement[0]
        if kind == "draw":
            name, pairs = statement[1:]
            stores = [self.flow.space.with_value(store, name, value) for value, _ in pairs]
            places = [self.flow.place_behind(path, drawn) for drawn in stores]
            return [list(zip(places, [weight for _, weight in pairs]))]
        if kind == "call":
            places = [self.place_behind_call(path, outcome) for outcome in range(self.never + 1)]
            return [list(zip(places, lot)) for lot in self.lots_told[statement[1]][store]]
        return [[(place, 1)] for place in self.flow.places_inside(path, store)]

    def behind(self, row, outcome):
        """The place to which an outcome of the called unit leads behind the call of a row."""
        if not self.is_row(row) or self.flow.by_path[row[0]][0] != "call":
            raise InvalidRow(row)
        if not is_whole_from(outcome, 0, self.never):
            raise InvalidStore(outcome)
        return self.place_behind_call(row[0], outcome)

    def place_behind_call(self, path, outcome):
        """What `behind` returns for any row with this path."""
        if outcome == self.never:
            return self.never
        return self.flow.place_behind(path, outcome)

    def met_from(self, place):
        """The ascending list of the rows that can be met from a place."""
        if not self.is_place(place):
            raise InvalidRow(place)
        found = {place: True}
        waiting = [place]
        while waiting:
            row = waiting.pop()
            if not isinstance(row, tuple):
                continue
            for move in self.moves_kept(row):
                for further, _ in move:
                    if further not in found:
                        found[further] = True
                        waiting.append(further)
        rows = sorted([row for row in found if isinstance(row, tuple)])
        if len(rows) > MOST_ROWS:
            raise TooMany(len(rows))
        return rows

    def rows_from(self, store):
        """The ascending list of the rows that can be met from the first place."""
        return self.met_from(self.first(store))

    def stays_from(self, store):
        """The ascending list of those of these rows at which one may stay."""
        return self.staying_among(self.rows_from(store))

    def staying_among(self, rows):
        """The ascending list of the rows at which one may stay, of all that can be met from some place."""
        left = rows
        while True:
            inside = {row: True for row in left}
            kept = [row for row in left if self.has_move_within(row, inside)]
            if len(kept) == len(left):
                return list(kept)
            left = kept

    def has_move_within(self, row, inside):
        """Whether some move of a row leads to keys of a dict alone."""
        return any([all([place in inside for place, _ in move]) for move in self.moves_kept(row)])


def web_of(system, body, summaries):
    """The Web of a body of a fair system, over summaries that are right for it."""
    called = calls_within(system, body)
    lots = {unit: tuple([tuple(part) for part in summaries[unit]]) for unit in called}
    return Web(Flow(Space(system[0]), body), lots)


def web(system, unit, summaries):
    """The Web of a unit if each unit that it calls brings the lots that the summaries give it."""
    check_unit(system, unit)
    body = dict(system[1])[unit]
    check_summaries(system, body, summaries)
    return web_of(system, body, summaries)
