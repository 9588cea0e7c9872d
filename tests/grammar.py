"""The language of texts as a grammar whose every derivation is followed at once.

It tells where the first piece stands with which no text goes on, by another way than the reader:
a state holds what must still come, a piece is taken by all states that can, and a string is
refused where none is left. No rule is used that could not be kept to its end.
"""

import re

KEPT = set("and by call choose draw else if name not or set unit while yes".split())


def is_word(piece):
    return bool(re.fullmatch("[a-z]{1,8}", piece)) and piece not in KEPT


def any_of(*pieces):
    return frozenset(pieces).__contains__


def number(low, high):
    return any_of(*[str(one) for one in range(low, high + 1)])


SIGN, NUM, WORD = any_of("+", "-", "*"), number(0, 99), is_word


def LEAF(piece):
    return is_word(piece) or NUM(piece)


class State:
    """How many statements may still come in the unit and in all, and the goals that must come, first one last."""

    def __init__(self, unit, whole, goals):
        self.key = (unit, whole, goals)
        self.unit, self.whole, self.goals = unit, whole, goals

    def then(self, *goals, cost=0, unit=None):
        left = self.unit if unit is None else unit
        return State(left - cost, self.whole - cost, self.goals[:-1] + tuple(reversed(goals)))


def rules(state):
    """The states that come by each rule for the first goal, if it is no piece."""
    name, *rest = state.goals[-1]
    return globals()["rules_" + name](state, *rest)


def rules_text(state):
    yield state.then(("name",), ("names", 2))


def rules_names(state, more):
    yield state.then(("unit",), ("units", 5))
    if more:
        yield state.then(("name",), ("names", more - 1))


def rules_units(state, more):
    yield state.then()
    if more:
        yield state.then(("unit",), ("units", more - 1))


def rules_name(state):
    yield state.then(any_of("name"), WORD, number(2, 6))


def rules_unit(state):
    yield state.then(any_of("unit"), WORD, ("body", 3), unit=20)


def rules_body(state, loops):
    yield state.then(any_of("{"), ("rest", loops))


def rules_rest(state, loops):
    yield state.then(any_of("}"))
    if state.unit and state.whole:
        yield state.then(("statement", loops), ("rest", loops), cost=1)


def rules_statement(state, loops):
    pair = [number(0, 5), any_of("by"), number(1, 12)]
    choice = [WORD, ("body", loops)]
    yield state.then(any_of("set"), WORD, any_of("="), ("expression", 6))
    yield state.then(any_of("draw"), WORD, *pair, *pair, ("third", *pair))
    yield state.then(any_of("choose"), *choice, any_of("or"), *choice, ("third", any_of("or"), *choice))
    yield state.then(any_of("if"), ("condition", 6), ("body", loops), any_of("else"), ("body", loops))
    if loops:
        yield state.then(any_of("while"), ("condition", 6), ("body", loops - 1))
    yield state.then(any_of("call"), WORD)


def rules_third(state, *goals):
    yield state.then()
    yield state.then(*goals)


def rules_expression(state, depth):
    yield state.then(LEAF)
    if depth > 1:
        yield state.then(("part", depth - 1), SIGN, ("part", depth - 1))


def rules_part(state, depth):
    yield state.then(LEAF)
    if depth > 1:
        yield state.then(any_of("("), ("part", depth - 1), SIGN, ("part", depth - 1), any_of(")"))


def rules_condition(state, depth):
    yield state.then(any_of("yes"))
    if depth > 1:
        yield state.then(("expression", depth - 1), any_of("<", "="), ("expression", depth - 1))
        yield state.then(any_of("not"), any_of("["), ("condition", depth - 1), any_of("]"))
        yield state.then(any_of("["), ("condition", depth - 1), any_of("]"), any_of("and", "or"),
                         any_of("["), ("condition", depth - 1), any_of("]"))


def ready(states):
    """The states in which a piece, or the end, must come next."""
    found, waiting = [], list(states)
    while waiting:
        state = waiting.pop()
        if state.goals and isinstance(state.goals[-1], tuple):
            waiting.extend(rules(state))
        else:
            found.append(state)
    return found


def first_refused(text):
    """None for a text; else the line and the column that NoSystem tells."""
    states = ready([State(0, 60, (("text",),))])
    for found in re.finditer(r"[a-z0-9]+|[^ \n]", text):
        taken = [state for state in states if state.goals and state.goals[-1](found[0])]
        if not taken:
            return place(text, found.start())
        states = ready([State(state.unit, state.whole, state.goals[:-1]) for state in taken])
    if any(not state.goals for state in states):
        return None
    return place(text, len(text))


def place(text, index):
    lines = text[:index].split("\n")
    return len(lines), len(lines[-1]) + 1
