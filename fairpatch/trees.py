"""The form of systems: which tuples are bodies, expressions and conditions, and what stands in them."""

from fairpatch.spaces import is_word
from fairpatch.wholes import is_whole_from

MOST_UNITS = 6
MOST_STATEMENTS = 20
MOST_STATEMENTS_IN_ALL = 60
MOST_LOOPS = 3
DEEPEST = 6
GREATEST_NUM = 99
GREATEST_VALUE = 5
GREATEST_WEIGHT = 12
FEWEST_PAIRS = 2
MOST_PAIRS = 3
SIGNS = ("+", "-", "*")


def is_tuple_of(value, many):
    """Whether any value is a tuple of so many items."""
    return isinstance(value, tuple) and len(value) == many


def is_expression(value, depth):
    """Whether any value is an expression that is at most so deep."""
    if depth < 1 or not isinstance(value, tuple):
        return False
    if len(value) == 2:
        if value[0] == "num":
            return is_whole_from(value[1], 0, GREATEST_NUM)
        return value[0] == "name" and is_word(value[1])
    if len(value) != 3 or value[0] not in SIGNS:
        return False
    return is_expression(value[1], depth - 1) and is_expression(value[2], depth - 1)


def is_condition(value, depth):
    """Whether any value is a condition that is at most so deep."""
    if depth < 1 or not isinstance(value, tuple):
        return False
    if len(value) == 1:
        return value[0] == "yes"
    if len(value) == 2:
        return value[0] == "not" and is_condition(value[1], depth - 1)
    if len(value) != 3:
        return False
    if value[0] in ("less", "same"):
        return is_expression(value[1], depth - 1) and is_expression(value[2], depth - 1)
    if value[0] in ("and", "or"):
        return is_condition(value[1], depth - 1) and is_condition(value[2], depth - 1)
    return False


def are_pairs(value):
    """Whether any value is a tuple of as many pairs as a draw and a choose have."""
    if not isinstance(value, tuple) or not FEWEST_PAIRS <= len(value) <= MOST_PAIRS:
        return False
    return all([is_tuple_of(pair, 2) for pair in value])


def is_draw_pair(pair):
    """Whether a tuple of two items is a value with its weight."""
    return is_whole_from(pair[0], 0, GREATEST_VALUE) and is_whole_from(pair[1], 1, GREATEST_WEIGHT)


def has_head_form(value):
    """Whether any value is a statement but for what stands in its bodies."""
    if not isinstance(value, tuple) or not 2 <= len(value) <= 4:
        return False
    kind = value[0]
    if len(value) == 2:
        if kind == "choose":
            return are_pairs(value[1]) and all([is_word(pair[0]) for pair in value[1]])
        return kind == "call" and is_word(value[1])
    if len(value) == 4:
        return kind == "if" and is_condition(value[1], DEEPEST)
    if kind == "set":
        return is_word(value[1]) and is_expression(value[2], DEEPEST)
    if kind == "draw":
        return is_word(value[1]) and are_pairs(value[2]) and all([is_draw_pair(pair) for pair in value[2]])
    return kind == "while" and is_condition(value[1], DEEPEST)


def bodies_in(statement):
    """The list of the bodies of a statement, in order."""
    if statement[0] == "choose":
        return [body for _, body in statement[1]]
    if statement[0] in ("if", "while"):
        return list(statement[2:])
    return []


def count_in(body, room, loops):
    """The number of statements in any value that is a body, those within others counted, too.

    None if it is no body, has more than `room` statements or more than `loops` while one in
    another. It stops at once there, for what is written short may be endlessly large.
    """
    if not isinstance(body, tuple):
        return None
    count = 0
    for statement in body:
        count += 1
        if count > room or not has_head_form(statement):
            return None
        inner_loops = loops
        if statement[0] == "while":
            inner_loops = loops - 1
        if inner_loops < 0:
            return None
        for inner in bodies_in(statement):
            more = count_in(inner, room - count, inner_loops)
            if more is None:
                return None
            count += more
    return count


def count_in_unit(value):
    """The number of statements in any value that is a tuple of a word and a body; None if it is none."""
    if not is_tuple_of(value, 2) or not is_word(value[0]):
        return None
    return count_in(value[1], MOST_STATEMENTS, MOST_LOOPS)


def counts_in_units(value):
    """The list of the numbers of statements in the units of any value that is a tuple of units; else None."""
    if not isinstance(value, tuple) or not 1 <= len(value) <= MOST_UNITS:
        return None
    counts = [count_in_unit(unit) for unit in value]
    if None in counts or sum(counts) > MOST_STATEMENTS_IN_ALL:
        return None
    return counts


def walked(body, path):
    """The list of the tuples (path, statement) of a body and the bodies in it, ascending by paths."""
    found = []
    for at, statement in enumerate(body):
        found.append(((*path, at), statement))
        for index, inner in enumerate(bodies_in(statement)):
            found.extend(walked(inner, (*path, at, index)))
    return found
