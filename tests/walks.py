"""Webs, lots and means by other ways than the package: walks over texts, and equations with fractions.

Points of a body are paths; where a way goes on is read off the text each time. Lots come from
linear equations over the rows from which an outcome can come.
"""

from fractions import Fraction
from itertools import product
from math import prod

from fairpatch.spaces import Space
from tests.samples import lot_of


def value_in(expression, values):
    if expression[0] == "num":
        return expression[1]
    if expression[0] == "name":
        return values[expression[1]]
    left, right = [value_in(part, values) for part in expression[1:]]
    return {"+": left + right, "-": left - right, "*": left * right}[expression[0]]


def true_in(condition, values):
    if condition[0] in ("less", "same"):
        left, right = [value_in(part, values) for part in condition[1:]]
        return left < right if condition[0] == "less" else left == right
    parts = [true_in(part, values) for part in condition[1:]]
    return {"yes": True, "not": not parts or not parts[0], "and": all(parts), "or": any(parts)}[condition[0]]


def bodies_of(statement):
    if statement[0] == "choose":
        return [body for _, body in statement[1]]
    return list(statement[2:]) if statement[0] in ("if", "while") else []


def part_at(body, path):
    """The statement with a path; with a path of even length the body there."""
    for at, index in enumerate(path):
        body = body[index] if at % 2 == 0 else bodies_of(body)[index]
    return body


def paths_of(body, ahead=()):
    for at, statement in enumerate(body):
        yield (*ahead, at)
        for index, inner in enumerate(bodies_of(statement)):
            yield from paths_of(inner, (*ahead, at, index))


class Walk:
    """The web of a body, row by row, with summaries given to what asks for moves."""

    def __init__(self, names, body, summaries=None):
        self.space, self.body, self.summaries = Space(names), body, summaries or {}
        self.never = len(self.space)

    def after(self, path):
        """The point behind the statement with a path, None at the end."""
        if path[-1] + 1 < len(part_at(self.body, path[:-1])):
            return (*path[:-1], path[-1] + 1)
        if len(path) == 1:
            return None
        owner = path[:-2]
        return owner if part_at(self.body, owner)[0] == "while" else self.after(owner)

    def inside(self, path, index):
        """The point at which a body of a statement begins."""
        statement = part_at(self.body, path)
        if bodies_of(statement)[index]:
            return (*path, index, 0)
        return path if statement[0] == "while" else self.after(path)

    def given(self, store, name, value):
        values = self.space.values_of(store)
        values[name] = value % dict(self.space.names)[name]
        return self.space.store_of(values)

    def place(self, point, store):
        while point is not None:
            statement, values = part_at(self.body, point), self.space.values_of(store)
            if statement[0] == "set":
                store, point = self.given(store, statement[1], value_in(statement[2], values)), self.after(point)
            elif statement[0] == "if":
                point = self.inside(point, 0 if true_in(statement[1], values) else 1)
            elif statement[0] == "while" and not true_in(statement[1], values):
                point = self.after(point)
            else:
                return point, store
        return store

    def first(self, store):
        return self.place((0,) if self.body else None, store)

    def behind(self, path, outcome):
        return self.never if outcome == self.never else self.place(self.after(path), outcome)

    def is_row(self, path, store):
        statement = part_at(self.body, path)
        if statement[0] == "while":
            return true_in(statement[1], self.space.values_of(store))
        return statement[0] in ("draw", "choose", "call")

    def all_rows(self):
        return [(path, store) for path in paths_of(self.body) for store in range(self.never) if self.is_row(path, store)]

    def moves(self, row):
        """The moves of a row, each one a dict of chances."""
        path, store = row
        statement = part_at(self.body, path)
        if statement[0] == "draw":
            ways = [[(self.place(self.after(path), self.given(store, statement[1], value)), weight)
                     for value, weight in statement[2]]]
        elif statement[0] == "call":
            ways = [[(self.behind(path, outcome), part) for outcome, part in enumerate(lot)]
                    for lot in self.summaries[statement[1]][store]]
        else:
            ways = [[(self.place(self.inside(path, index), store), 1)] for index in range(len(bodies_of(statement)))]
        told = []
        for way in ways:
            chances, whole = {}, sum(weight for _, weight in way)
            for place, weight in way:
                if weight:
                    chances[place] = chances.get(place, 0) + Fraction(weight, whole)
            told.append(chances)
        return told

    def met(self, place):
        found, waiting = set(), [place]
        while waiting:
            row = waiting.pop()
            if isinstance(row, tuple) and row not in found:
                found.add(row)
                waiting.extend(further for move in self.moves(row) for further in move)
        return sorted(found)

    def choices(self, place):
        return [row for row in self.met(place) if len(self.moves(row)) > 1]

    def count(self, place):
        """The number of picks."""
        return prod(len(self.moves(row)) for row in self.choices(place))

    def has_few(self, place, rows, picks):
        """Whether no more rows are met from a place and no more picks are there."""
        return len(self.met(place)) <= rows and self.count(place) <= picks

    def picks(self, place):
        return list(product(*[range(len(self.moves(row))) for row in self.choices(place)]))

    def gone_by(self, place, pick):
        """The move that a pick takes at each row met."""
        told = dict(zip(self.choices(place), pick))
        return {row: self.moves(row)[told.get(row, 0)] for row in self.met(place)}

    def lot(self, place, pick):
        return lot_of_chances(self.shares(place, pick))

    def shares(self, place, pick):
        """The chances of all outcomes by a pick."""
        moves = self.gone_by(place, pick)
        ending = rows_that_end(moves)
        shares = [Fraction(0)] * (self.never + 1)
        if not isinstance(place, tuple):
            shares[place] = Fraction(1)
        elif place in ending:
            visits = expected_visits(moves, ending, place)
            for row, count in visits.items():
                for further, chance in moves[row].items():
                    if not isinstance(further, tuple):
                        shares[further] += count * chance
        shares[-1] += 1 - sum(shares)
        return shares

    def lots(self, place):
        return sorted({self.lot(place, pick) for pick in self.picks(place)})

    def mean(self, place, pick, payoff):
        return sum(share * number for share, number in zip(self.shares(place, pick), payoff))


def rows_that_end(moves):
    """The rows from which an outcome can come."""
    ending = set()
    while True:
        more = {row for row, move in moves.items()
                if any(not isinstance(place, tuple) or place in ending for place in move)}
        if more == ending:
            return sorted(ending)
        ending = more


def expected_visits(moves, rows, first):
    """How often each row is come to in the mean, by Gauss's way."""
    index = {row: at for at, row in enumerate(rows)}
    matrix = [[Fraction(int(at == to)) for to in range(len(rows))] + [Fraction(int(row == first))]
              for at, row in enumerate(rows)]
    for row in rows:
        for place, chance in moves[row].items():
            if place in index:
                matrix[index[place]][index[row]] -= chance
    size = len(rows)
    for column in range(size):
        lead = next(at for at in range(column, size) if matrix[at][column] != 0)
        matrix[column], matrix[lead] = matrix[lead], matrix[column]
        head = matrix[column]
        for at in range(size):
            if at != column and matrix[at][column] != 0:
                factor = matrix[at][column] / head[column]
                matrix[at] = [own - factor * other for own, other in zip(matrix[at], head)]
    return {row: matrix[at][size] / matrix[at][at] for row, at in index.items()}


def lot_of_chances(shares):
    whole = 1
    for share in shares:
        whole *= share.denominator
    return lot_of([int(share * whole) for share in shares])


def mean_of(lot, payoff):
    return sum(Fraction(part) * number for part, number in zip(lot, payoff)) / sum(lot)
