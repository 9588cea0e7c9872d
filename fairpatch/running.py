"""Running code in a store, from a row up to the next one that asks."""

from fairpatch.code import Code, is_asking
from fairpatch.errors import InvalidAnswer, InvalidCode, InvalidNames, InvalidRow
from fairpatch.plain import label_list, wheel_values
from fairpatch.spaces import Space
from fairpatch.wholes import is_whole_from


def check_code(code):
    """Raises InvalidCode unless this is a Code."""
    if not isinstance(code, Code):
        raise InvalidCode(code)


def check_code_in(space, code):
    """Raises InvalidNames or InvalidCode unless this is a Space and a Code that can run in it."""
    if not isinstance(space, Space):
        raise InvalidNames(space)
    check_code(code)
    # a space has few names, so this comes to an end soon, however many the code has
    for name, size in code.sizes_needed:
        if name not in space or space.size_of(name) < size:
            raise InvalidCode(code)


def check_asking(code, at):
    """Raises InvalidRow unless this is the number of a row that asks."""
    if not is_whole_from(at, 0, len(code.rows) - 1) or not is_asking(code.rows[at]):
        raise InvalidRow(at)


def reckoned(kind, left, right):
    """The integer that a row puts in the place of two."""
    if kind == "add":
        return left + right
    if kind == "take":
        return left - right
    if kind == "times":
        return left * right
    if kind == "less":
        return int(left < right)
    if kind == "same":
        return int(left == right)
    if kind == "and":
        return int(left != 0 and right != 0)
    return int(left != 0 or right != 0)


def run_row(row, at, told, pile):
    """Runs a row that does not ask, but for a save, and returns the number of the next row."""
    kind = row[0]
    if kind == "push":
        pile.append(row[1])
    elif kind == "load":
        pile.append(told[row[1]])
    elif kind == "go":
        return row[1]
    elif kind == "unless":
        if pile.pop() == 0:
            return row[1]
    elif kind == "not":
        pile.append(int(pile.pop() == 0))
    else:
        right = pile.pop()
        pile.append(reckoned(kind, pile.pop(), right))
    return at + 1


def run_on(space, code, at, store):
    """The tuple of the number of the row that asks next and the store then."""
    told = space.values_of(store)
    sizes = dict(space.names)
    pile = []
    while not is_asking(code.rows[at]):
        row = code.rows[at]
        if row[0] == "save":
            told[row[1]] = pile.pop() % sizes[row[1]]
            at += 1
        else:
            at = run_row(row, at, told, pile)
    return at, space.store_of(told)


def settled(space, code, at, store):
    """Runs the rows from one with nothing on the pile up to the first one that asks: its number and the store."""
    check_code_in(space, code)
    if not is_whole_from(at, 0, len(code.rows) - 1) or code.heights[at] != 0:
        raise InvalidRow(at)
    space.check_store(store)
    return run_on(space, code, at, store)


def question(code, at):
    """What a row asks."""
    check_code(code)
    check_asking(code, at)
    row = code.rows[at]
    if row[0] == "draw":
        return "turn", len(wheel_values(row))
    if row[0] == "choose":
        return "choose", tuple(label_list(row))
    return row


def answered(space, code, at, store, answer):
    """Goes on behind an answer to what a row asks: the number of the row that asks next and the store then."""
    check_code_in(space, code)
    check_asking(code, at)
    space.check_store(store)
    row = code.rows[at]
    if not is_answer(space, row, answer):
        raise InvalidAnswer(answer)
    if row[0] == "choose":
        return run_on(space, code, dict(row[1])[answer], store)
    if row[0] == "draw":
        store = space.with_value(store, row[1], wheel_values(row)[answer])
    if row[0] == "call":
        store = answer
    return run_on(space, code, at + 1, store)


def is_answer(space, row, value):
    """Whether any value answers what a row asks."""
    if row[0] == "loop":
        return value is None
    if row[0] == "draw":
        return is_whole_from(value, 0, len(wheel_values(row)) - 1)
    if row[0] == "choose":
        return value in label_list(row)
    return row[0] == "call" and is_whole_from(value, 0, space.never - 1)
