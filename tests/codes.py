"""Code by other ways than the package: a judge, a machine, a compiler with labels, and codes at random."""

from fairpatch.spaces import Space, is_word
from tests.walks import bodies_of

ASKING = ("loop", "draw", "choose", "call", "back")
TAKES = dict(save=1, unless=1, add=2, take=2, times=2, less=2, same=2, **{"not": 1, "and": 2, "or": 2})
PUTS = dict(push=1, load=1, add=1, take=1, times=1, less=1, same=1, **{"not": 1, "and": 1, "or": 1})


def is_int(value, low, high):
    return type(value) is int and low <= value <= high


def is_row(row, many):
    if type(row) is not tuple or not row or type(row[0]) is not str:
        return False
    kind, rest = row[0], row[1:]
    if kind in ("add", "take", "times", "less", "same", "not", "and", "or", "loop", "back"):
        return rest == ()
    if kind == "draw":
        return len(rest) == 2 and is_word(rest[0]) and is_pairs(rest[1], lambda one: is_int(one, 0, 5), lambda one: is_int(one, 1, 12))
    if len(rest) != 1:
        return False
    if kind == "push":
        return is_int(rest[0], 0, 99)
    if kind in ("load", "save", "call"):
        return is_word(rest[0])
    if kind in ("unless", "go"):
        return is_int(rest[0], 0, many - 1)
    return kind == "choose" and is_pairs(rest[0], is_word, lambda one: is_int(one, 0, many - 1))


def is_pairs(value, first, second):
    if type(value) is not tuple or len(value) not in (2, 3):
        return False
    if not all(type(pair) is tuple and len(pair) == 2 and first(pair[0]) and second(pair[1]) for pair in value):
        return False
    return len({pair[0] for pair in value}) == len(value)


def next_rows(rows, at):
    row = rows[at]
    if row[0] == "back":
        return []
    if row[0] == "choose":
        return [number for _, number in row[1]]
    ways = [] if row[0] == "go" else [at + 1]
    return ways + ([row[1]] if row[0] in ("go", "unless") else [])


def heights_and_ranks(rows):
    """The heights and ranks of a code, None if the value is none; rounds over all rows until nothing changes."""
    if type(rows) not in (list, tuple) or not 1 <= len(rows) <= 1400:
        return None
    if not all(is_row(row, len(rows)) for row in rows) or [row[0] for row in rows].count("back") != 1 or rows[-1] != ("back",):
        return None
    heights = [{0} if row[0] in ASKING else set() for row in rows]
    heights[0].add(0)
    met = {0}
    changed = True
    while changed:
        changed = False
        for at, row in enumerate(rows):
            for height in list(heights[at]) if at in met else []:
                if height < TAKES.get(row[0], 0):
                    return None
                after = height - TAKES.get(row[0], 0) + PUTS.get(row[0], 0)
                for number in next_rows(rows, at):
                    if after not in heights[number] or number not in met:
                        changed = True
                        heights[number].add(after)
                        met.add(number)
                        if len(heights[number]) > 1:
                            return None
    if len(met) < len(rows):
        return None
    ranks = {}
    while len(ranks) < len(rows):
        more = {}
        for at, row in enumerate(rows):
            if at not in ranks and (row[0] in ASKING or all(number in ranks for number in next_rows(rows, at))):
                more[at] = 0 if row[0] in ASKING else 1 + max(ranks[number] for number in next_rows(rows, at))
        if not more:
            return None
        ranks.update(more)
    return tuple(max(one) for one in heights), tuple(ranks[at] for at in range(len(rows)))


class Machine:
    """Runs rows with a store and a pile, and counts nothing."""

    def __init__(self, names, rows):
        self.names, self.rows, self.space = names, rows, Space(names)

    def settle(self, at, store):
        values, pile = self.space.values_of(store), []
        while self.rows[at][0] not in ASKING:
            kind, rest = self.rows[at][0], self.rows[at][1:]
            at += 1
            if kind == "push":
                pile += [rest[0]]
            elif kind == "load":
                pile += [values[rest[0]]]
            elif kind == "save":
                values[rest[0]] = pile.pop() % dict(self.names)[rest[0]]
            elif kind == "go":
                at = rest[0]
            elif kind == "unless":
                at = at if pile.pop() else rest[0]
            elif kind == "not":
                pile += [0 if pile.pop() else 1]
            else:
                a, b = pile[-2:]
                pile[-2:] = [int({"add": a + b, "take": a - b, "times": a * b, "less": a < b, "same": a == b,
                                  "and": bool(a and b), "or": bool(a or b)}[kind])]
        assert not pile
        return at, self.space.store_of(values)

    def answers(self, at):
        """All right answers to what a row asks."""
        row = self.rows[at]
        if row[0] == "draw":
            return list(range(sum(weight for _, weight in row[2])))
        if row[0] == "choose":
            return [label for label, _ in row[1]]
        return {"loop": [None], "call": self.space.stores(), "back": []}[row[0]]

    def go_on(self, at, store, answer):
        row = self.rows[at]
        if row[0] == "choose":
            return self.settle(dict(row[1])[answer], store)
        if row[0] == "draw":
            values = self.space.values_of(store)
            values[row[1]] = [value for value, weight in row[2] for _ in range(weight)][answer]
            store = self.space.store_of(values)
        return self.settle(at + 1, answer if row[0] == "call" else store)


def with_labels(tree):
    """The rows of an expression or a condition."""
    if tree[0] in ("num", "name"):
        return [("push" if tree[0] == "num" else "load", tree[1])]
    if tree == ("yes",):
        return [("push", 1)]
    rows = [row for part in tree[1:] for row in with_labels(part)]
    return rows + [({"+": "add", "-": "take", "*": "times"}.get(tree[0], tree[0]),)]


def compiled_by_labels(body):
    """The rows of a body and the numbers by paths: rows with labels first, then the labels' numbers."""
    rows, fresh, numbers = [], iter(range(10 ** 6)), []

    def lay(inner, ahead):
        for at, statement in enumerate(inner):
            path, kind = (*ahead, at), statement[0]
            bodies = bodies_of(statement)
            ends = [f"label {next(fresh)}" for _ in range(4)]
            if kind == "set":
                rows.extend([*with_labels(statement[2]), ("save", statement[1])])
            elif kind in ("draw", "call"):
                rows.extend([("mark", path), statement])
            elif kind == "while":
                rows.extend([ends[0], *with_labels(statement[1]), ("unless", ends[1]), ("mark", path), ("loop",)])
                lay(bodies[0], (*path, 0))
                rows.extend([("go", ends[0]), ends[1]])
            elif kind == "if":
                rows.extend([*with_labels(statement[1]), ("unless", ends[1])])
                lay(bodies[0], (*path, 0))
                rows.extend([("go", ends[2]), ends[1]])
                lay(bodies[1], (*path, 1))
                rows.append(ends[2])
            else:
                rows.extend([("mark", path), ("choose", tuple((label, ends[index]) for index, (label, _) in enumerate(statement[1])))])
                for index, part in enumerate(bodies):
                    rows.append(ends[index])
                    lay(part, (*path, index))
                    rows.extend([("go", ends[3])] * (index + 1 < len(bodies)))
                rows.append(ends[3])

    lay(body, ())
    rows.append(("back",))
    found, count = {}, 0
    for row in rows:
        if isinstance(row, str):
            found[row] = count
        elif row[0] == "mark":
            numbers.append((row[1], count))
        else:
            count += 1

    def named(part):
        if isinstance(part, tuple):
            return tuple(named(one) for one in part)
        return found.get(part, part)

    return [named(row) for row in rows if not isinstance(row, str) and row[0] != "mark"], numbers


def random_rows(random, many):
    """Rows at random that are often a code: what they leave on the pile is kept in mind."""
    rows, height = [], 0
    words = ["a", "b", "hp"]
    while len(rows) < many - 1:
        kinds = ["push", "load"] if height < 20 else []
        if height == 0:
            kinds += ["loop", "draw", "choose", "call", "go", "go"]
        if height > 0:
            kinds += ["not", "save"]
        if height == 1:
            kinds += ["save", "unless", "unless"]
        if height > 1:
            kinds += ["add", "take", "times", "less", "same", "and", "or"] * 2
        kind = random.choice(kinds)
        height += PUTS.get(kind, 0) - TAKES.get(kind, 0)
        target = random.choice([len(rows) + 1, len(rows) + 1, len(rows) + 2, random.randrange(many)])
        target = min(target, many - 1)
        if kind == "push":
            rows.append(("push", random.choice([0, 1, 2, 3, 98, 99])))
        elif kind in ("load", "save", "call"):
            rows.append((kind, random.choice(words)))
        elif kind in ("go", "unless"):
            rows.append((kind, target))
        elif kind == "draw":
            values = random.sample(range(6), random.choice((2, 3)))
            rows.append(("draw", random.choice(words), tuple((value, random.randrange(1, 13)) for value in values)))
        elif kind == "choose":
            labels = random.sample(["x", "y", "z", "w"], random.choice((2, 3)))
            rows.append(("choose", tuple((label, random.choice([target, len(rows) + 1])) for label in labels)))
        else:
            rows.append((kind,))
    return rows + [("back",)]
