"""Records: games told from their beginning on, and where they stand by the texts alone."""

from fairpatch.checks import Bounds, checked_counts
from fairpatch.errors import InvalidRecord, PatchError
from fairpatch.flow import Flow
from fairpatch.going import Retelling
from fairpatch.machine import MOST_EDITIONS
from fairpatch.spaces import Space
from fairpatch.wholes import is_whole_from


def record_of(house, game):
    """The record of a game of a house."""
    store, number = house.start_of(game)
    unit = house.registry.units[-1]
    return store, house.game_at(game).used(), [f"call {unit} {number}", *house.lines(game)]


def has_record_form(value):
    """Whether any value is a tuple of three items, of which the last two are lists, and the last one of strings."""
    if not isinstance(value, tuple) or len(value) != 3:
        return False
    if not all([isinstance(part, (list, tuple)) for part in value[1:]]):
        return False
    return len(value[2]) > 0 and all([isinstance(line, str) for line in value[2]])


def is_edition(system, bounds, value):
    """Whether any value is a tuple (unit, number, body) that can be an edition of a unit of a system."""
    if not isinstance(value, tuple) or len(value) != 3 or not is_whole_from(value[1], 0, MOST_EDITIONS - 1):
        return False
    unit, number, body = value
    if unit not in bounds.units:
        return False
    try:
        bounds.check_body(unit, body)
    except PatchError:
        return False
    return (number == 0) == (dict(system[1])[unit] == body)


def are_editions(system, counts, value):
    """Whether the items of a list are different editions of the units of a system, in their order."""
    bounds = Bounds(system, counts)
    if not all([is_edition(system, bounds, item) for item in value]):
        return False
    places = [(bounds.units.index(unit), number) for unit, number, _ in value]
    if not all([places[at] < places[at + 1] for at in range(len(places) - 1)]):
        return False
    for at, (unit, _, body) in enumerate(value):
        if any([unit == other and body == elder for other, _, elder in value[:at]]):
            return False
    return True


def retold(system, counts, value):
    """The Retelling of any value that is a record of a system, up to its last line; else None.

    `counts` are the numbers of statements in the units.
    """
    space = Space(system[0])
    if not has_record_form(value) or not is_whole_from(value[0], 0, space.never - 1):
        return None
    store, editions, lines = value
    if not are_editions(system, counts, editions):
        return None
    flows = {(unit, number): Flow(space, body) for unit, number, body in editions}
    retelling = Retelling(system[1][-1][0], store, flows)
    if not retelling.takes_all(lines) or len(retelling.told) != len(flows):
        return None
    return retelling


def is_record(system, value):
    """Whether any value is a record of a system."""
    return retold(system, checked_counts(system), value) is not None


def replay(system, record):
    """The tuple of what a game with a record asks for, the store that it is in, and its frames."""
    retelling = retold(system, checked_counts(system), record)
    if retelling is None:
        raise InvalidRecord(record)
    return retelling.game.asks(), retelling.game.store, retelling.game.frames()
