"""Fair systems: what is wrong in a system, and what stands in a fair one."""

from fairpatch.errors import InvalidBody, InvalidSystem, InvalidUnit, NotFair
from fairpatch.spaces import MOST_STORES, Space, stores_of_sizes
from fairpatch.texts import counts_in_tree, is_tree
from fairpatch.trees import MOST_LOOPS, MOST_STATEMENTS, MOST_STATEMENTS_IN_ALL, count_in, walked


def first_repeated(words):
    """The first word that equals one ahead of it, or None."""
    for at, word in enumerate(words):
        if word in words[:at]:
            return word
    return None


def first_too_large(names):
    """The first name up to which the names have too many stores together, or None."""
    for at, (name, _) in enumerate(names):
        if stores_of_sizes([size for _, size in names[:at + 1]]) > MOST_STORES:
            return name
    return None


def names_in(tree):
    """The list of the names in an expression or a condition, from left to right."""
    if tree[0] == "name":
        return [tree[1]]
    if tree[0] == "num":
        return []
    found = []
    for part in tree[1:]:
        found.extend(names_in(part))
    return found


def names_of_head(statement):
    """The list of the names in a statement but for those in its bodies, from left to right."""
    kind = statement[0]
    if kind == "set":
        return [statement[1], *names_in(statement[2])]
    if kind == "draw":
        return [statement[1]]
    if kind in ("if", "while"):
        return names_in(statement[1])
    return []


def wrong_in_statement(statement, sizes, ahead):
    """The tuple (reason, word) of the first thing that is wrong in a statement itself, or None.

    `sizes` are those of the names, `ahead` are the units that may be called.
    """
    for name in names_of_head(statement):
        if name not in sizes:
            return "name", name
    kind = statement[0]
    if kind == "draw":
        values = [value for value, _ in statement[2]]
        if len(set(values)) < len(values) or max(values) >= sizes[statement[1]]:
            return "value", statement[1]
    if kind == "choose":
        label = first_repeated([label for label, _ in statement[1]])
        if label is not None:
            return "label", label
    if kind == "call" and statement[1] not in ahead:
        return "call", statement[1]
    return None


def wrong_in_body(body, sizes, ahead):
    """The tuple (reason, word) of the first thing that is wrong in a body, or None."""
    for _, statement in walked(body, ()):
        wrong = wrong_in_statement(statement, sizes, ahead)
        if wrong is not None:
            return wrong
    return None


def first_wrong(system):
    """The tuple (reason, unit, word) of the first thing that is wrong in a system, or None."""
    names, units = system
    known = [name for name, _ in names]
    callable_units = [unit for unit, _ in units]
    repeated = first_repeated(known + callable_units)
    if repeated is not None:
        return "twice", None, repeated
    large = first_too_large(names)
    if large is not None:
        return "stores", None, large
    sizes = dict(names)
    for at, (unit, body) in enumerate(units):
        wrong = wrong_in_body(body, sizes, callable_units[:at])
        if wrong is not None:
            return wrong[0], unit, wrong[1]
    return None


def checked_counts(system):
    """The list of the numbers of statements in the units of a fair system; raises what check_system raises."""
    counts = counts_in_tree(system)
    if counts is None:
        raise InvalidSystem(system)
    wrong = first_wrong(system)
    if wrong is not None:
        reason, unit, word = wrong
        raise NotFair(reason, unit, word)
    return counts


def check_system(system):
    """Raises InvalidSystem or NotFair unless this is a fair system."""
    checked_counts(system)


def is_fair(value):
    """Whether any value is a fair system."""
    return is_tree(value) and first_wrong(value) is None


def check_unit(system, unit):
    """Raises what check_system raises, or InvalidUnit unless this is the name of one of the units."""
    if unit not in unit_names(system):
        raise InvalidUnit(unit)


def space_of(system):
    """The space with the names and sizes of a system."""
    check_system(system)
    return Space(system[0])


def unit_names(system):
    """The list of the names of the units, in order."""
    check_system(system)
    return [unit for unit, _ in system[1]]


def body_of(system, unit):
    """The body of a unit."""
    check_unit(system, unit)
    return dict(system[1])[unit]


def statements(system, unit):
    """The list of the tuples (path, statement) of all statements of a unit, ascending."""
    return walked(body_of(system, unit), ())


def calls_within(system, body):
    """The list of the units of a fair system that a body calls, each once, in the order of the units."""
    called = [statement[1] for _, statement in walked(body, ()) if statement[0] == "call"]
    return [name for name, _ in system[1] if name in called]


def calls_of(system, unit):
    """The list of the units that a unit calls, each once, in the order of the units."""
    return calls_within(system, body_of(system, unit))


class Bounds:
    """Which bodies the units of a fair system can have, all else being as it is.

    The other units are not gone through for this: only the numbers of their statements count.
    """

    def __init__(self, system, counts):
        self.sizes = dict(system[0])
        self.units = [unit for unit, _ in system[1]]
        self.rooms = {
            unit: MOST_STATEMENTS_IN_ALL - sum(counts) + count for unit, count in zip(self.units, counts)}

    def check_body(self, unit, body):
        """Raises InvalidBody or NotFair unless a unit can have this body."""
        count = count_in(body, MOST_STATEMENTS, MOST_LOOPS)
        if count is None or count > self.rooms[unit]:
            raise InvalidBody(body)
        wrong = wrong_in_body(body, self.sizes, self.units[:self.units.index(unit)])
        if wrong is not None:
            reason, word = wrong
            raise NotFair(reason, unit, word)


def check_body(system, unit, body):
    """Raises what with_body raises."""
    bounds = Bounds(system, checked_counts(system))
    if unit not in bounds.units:
        raise InvalidUnit(unit)
    bounds.check_body(unit, body)


def with_body(system, unit, body):
    """The system in which the unit has this body, and in which all else is as before."""
    check_body(system, unit, body)
    names, units = system
    return names, tuple([(name, body if name == unit else old) for name, old in units])
