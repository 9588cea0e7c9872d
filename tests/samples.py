"""Values, lots and systems that several tests need."""

from math import gcd

from fairpatch.errors import InvalidNumber
from fairpatch.ratios import Ratio
from fairpatch.spaces import Space


def nested(depth, wrap):
    value = 1
    for _ in range(depth):
        value = wrap(value)
    return value


def any_values():
    """Values of all kinds that judges may be given."""
    return [
        None, True, False, 0, 1, -1, 10 ** 60, "", "a", "name", " \t\n~", "x" * 4000, (), [], {}, ((),), [[]],
        {"a": 1}, {"": [None, (True,)]}, (1,), (1, 2), [1, 2], ("set",), ("num", 1), ("yes",), ((), ()),
        (("a", 2),), ((("a", 2),), ()), Ratio(1, 2), Ratio(3), Space([("a", 2)]), InvalidNumber(1), Stranger,
        (Ratio(1), Space([("a", 2)])), (Ratio(1), 1, 2), (Space([("a", 2)]), "a", ()),
        nested(90, lambda value: (value,)), nested(90, lambda value: [value]), nested(90, lambda value: {"a": value}),
        nested(90, lambda value: ("not", value)), nested(89, lambda value: ("+", value, 1)),
        nested(45, lambda value: (("while", ("yes",), value),)),
    ]


class Stranger:
    """A class as a value: no judge may take it for anything."""


def lot_of(numbers):
    """The lot with shares in the ratio of these integers."""
    divisor = 0
    for number in numbers:
        divisor = gcd(divisor, number)
    return tuple(number // divisor for number in numbers)


def random_lot(random, many, most):
    """A lot of so many outcomes with integers up to most."""
    while True:
        numbers = [random.randrange(most + 1) for _ in range(many)]
        if any(numbers):
            return lot_of(numbers)


def mixture(lots, weights):
    """The mixture of lots by integers as weights, worked out with one product of all sums."""
    whole = 1
    for lot in lots:
        whole *= sum(lot)
    return lot_of([
        sum(weight * lot[at] * (whole // sum(lot)) for lot, weight in zip(lots, weights))
        for at in range(len(lots[0]))
    ])


def random_expression(random, names, depth):
    if depth < 2 or random.random() < 0.4:
        if random.random() < 0.5:
            return ("num", random.choice((0, 1, 2, 3, 7, 98, 99)))
        return ("name", random.choice(names))
    left = random_expression(random, names, depth - 1)
    return (random.choice("+-*"), left, random_expression(random, names, depth - 1))


def random_condition(random, names, depth):
    if depth < 2 or random.random() < 0.1:
        return ("yes",)
    if random.random() < 0.5:
        left = random_expression(random, names, depth - 1)
        return (random.choice(("less", "same")), left, random_expression(random, names, depth - 1))
    if random.random() < 0.4:
        return ("not", random_condition(random, names, depth - 1))
    left = random_condition(random, names, depth - 1)
    return (random.choice(("and", "or")), left, random_condition(random, names, depth - 1))


class TreeMaker:
    """Makes fair systems at random."""

    def __init__(self, random):
        self.random = random

    def system(self):
        random = self.random
        sizes = random.choice([(2,), (3,), (6,), (2, 2), (2, 4), (3, 2), (2, 2, 2)])
        self.names = list(zip(random.sample(["hp", "gold", "a", "z", "luck"], len(sizes)), sizes))
        units = random.sample(["roll", "turn", "game", "u", "v", "hit", "step"], random.randrange(1, 7))
        self.left_in_all = 60
        made = []
        for at, unit in enumerate(units):
            self.left = random.randrange(21)
            made.append((unit, self.body(units[:at], 3, 0.8)))
        return (tuple(self.names), tuple(made))

    def body(self, ahead, loops, chance):
        found = []
        while self.left and self.left_in_all and self.random.random() < chance:
            self.left -= 1
            self.left_in_all -= 1
            found.append(self.statement(ahead, loops))
        return tuple(found)

    def statement(self, ahead, loops):
        random = self.random
        name, size = random.choice(self.names)
        words = [word for word, _ in self.names]
        kinds = ["set", "draw", "choose", "if"] + ["while"] * (loops > 0) + ["call"] * (len(ahead) > 0)
        kind = random.choice(kinds)
        if kind == "set":
            return ("set", name, random_expression(random, words, random.randrange(1, 7)))
        if kind == "draw":
            values = random.sample(range(size), min(size, random.choice((2, 3))))
            return ("draw", name, tuple((value, random.randrange(1, 13)) for value in values))
        if kind == "call":
            return ("call", random.choice(ahead))
        if kind == "choose":
            labels = random.sample(["go", "stay", "hp", "x"], random.choice((2, 3)))
            return ("choose", tuple((label, self.body(ahead, loops, 0.5)) for label in labels))
        condition = random_condition(random, words, random.randrange(1, 7))
        if kind == "if":
            return ("if", condition, self.body(ahead, loops, 0.5), self.body(ahead, loops, 0.5))
        return ("while", condition, self.body(ahead, loops - 1, 0.6))
