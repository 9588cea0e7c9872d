"""Small systems at random, with summaries at random, and lots of values that are almost right."""

from fairpatch.checks import calls_of
from fairpatch.ratios import Ratio
from fairpatch.spaces import Space
from tests.samples import random_condition, random_expression, random_lot


class SmallMaker:
    """Fair systems with short bodies, so that few rows and picks are met."""

    SIZES = [(2,), (3,), (4,), (5,), (6,), (2, 2), (3, 2), (2, 3), (2, 4), (2, 2, 2)]

    def __init__(self, random, most=5, sizes=None):
        self.random, self.most, self.sizes = random, most, sizes or self.SIZES

    def names(self):
        sizes = self.random.choice(self.sizes)
        return tuple(zip(self.random.sample(["hp", "a", "z"], len(sizes)), sizes))

    def system(self, units=None):
        names = self.names()
        words = self.random.sample(["roll", "turn", "game"], units or self.random.randrange(1, 4))
        return (names, tuple((word, self.body(names, words[:at])) for at, word in enumerate(words)))

    def body(self, names, ahead, most=None):
        self.left = self.random.randrange((most or self.most) + 1)
        found = self.statements(names, ahead, 3, 1.0)
        return found

    def statements(self, names, ahead, loops, chance):
        found = []
        while self.left and self.random.random() < chance:
            self.left -= 1
            found.append(self.statement(names, ahead, loops))
        return tuple(found)

    def condition(self, names):
        if self.random.random() < 0.15:
            return ("yes",)
        name, size = self.random.choice(names)
        if self.random.random() < 0.8:
            return (self.random.choice(("less", "same")), ("name", name), ("num", self.random.randrange(size)))
        return random_condition(self.random, [word for word, _ in names], 4)

    def statement(self, names, ahead, loops):
        random = self.random
        name, size = random.choice(names)
        kind = random.choice(["set", "draw", "draw", "choose", "choose", "if"] + ["while"] * 2 * (loops > 0) + ["call"] * 2 * bool(ahead))
        if kind == "set":
            if random.random() < 0.7:
                return ("set", name, (random.choice("+-*"), ("name", name), ("num", random.randrange(4))))
            return ("set", name, random_expression(random, [word for word, _ in names], 3))
        if kind == "draw":
            values = random.sample(range(size), min(size, random.choice((2, 2, 3))))
            return ("draw", name, tuple((value, random.randrange(1, 5)) for value in values))
        if kind == "call":
            return ("call", random.choice(ahead))
        if kind == "choose":
            labels = random.sample(["go", "stay", "hp", "x"], random.choice((2, 2, 3)))
            return ("choose", tuple((label, self.statements(names, ahead, loops, 0.5)) for label in labels))
        condition = self.condition(names)
        if kind == "if":
            return ("if", condition, self.statements(names, ahead, loops, 0.6), self.statements(names, ahead, loops, 0.4))
        return ("while", condition, self.statements(names, ahead, loops - 1, 0.7))


def random_summaries(random, system, unit, most=3, great=4):
    """Summaries of what a unit calls, with lots that are no corners, too, sure never among them."""
    never = len(Space(system[0]))
    told = {}
    for called in calls_of(system, unit):
        told[called] = []
        for _ in range(never):
            lots = {random_lot(random, never + 1, random.choice((1, great))) for _ in range(random.randrange(1, most + 1))}
            if random.random() < 0.1:
                lots.add((0,) * never + (1,))
            told[called].append(sorted(lots)[:6])
    return told


def spoiled(value, others):
    """Values that differ from a value at one place: each part replaced, left out or said twice."""
    for other in others:
        yield other
    if isinstance(value, (list, tuple)):
        kind = type(value)
        yield list(value) if kind is tuple else tuple(value)
        yield kind((*value, None))
        for at in range(len(value)):
            head, tail = list(value[:at]), list(value[at + 1:])
            yield kind(head + tail)
            yield kind([*head, value[at], value[at], *tail])
            for part in spoiled(value[at], others):
                yield kind([*head, part, *tail])
    elif isinstance(value, Ratio):
        yield from (Ratio(value.top + 1, value.bottom), value + 1, value - 1, Ratio(0), str(value))
    elif isinstance(value, int) and not isinstance(value, bool):
        yield from (value + 1, value - 1, -value, Ratio(value), bool(value))
