"""Code: rows that run with a store and a pile of integers, and stop where something is asked."""

from fairpatch.errors import InvalidCode, InvalidLines
from fairpatch.spaces import is_word
from fairpatch.trees import GREATEST_NUM, are_pairs, is_draw_pair
from fairpatch.wholes import is_whole_from, read_whole

MOST_CODE_ROWS = 1400
ASKING = ("loop", "draw", "choose", "call", "back")
BARE = ("add", "take", "times", "less", "same", "not", "and", "or", "loop", "back")
# how many integers a row takes from the pile, and how many it puts there
TAKEN_AND_PUT = {
    "push": (0, 1), "load": (0, 1), "save": (1, 0), "unless": (1, 0), "not": (1, 1), "add": (2, 1), "take": (2, 1),
    "times": (2, 1), "less": (2, 1), "same": (2, 1), "and": (2, 1), "or": (2, 1),
}


def is_asking(row):
    """Whether a row waits for an answer."""
    return row[0] in ASKING


def are_different(values):
    """Whether no value of a list stands there twice."""
    return len(set(values)) == len(values)


def is_code_row(value, many):
    """Whether any value is a row of a code with so many rows."""
    if not isinstance(value, tuple) or not 1 <= len(value) <= 3 or not isinstance(value[0], str):
        return False
    kind = value[0]
    if len(value) == 1:
        return kind in BARE
    if len(value) == 3:
        return kind == "draw" and is_word(value[1]) and are_drawn(value[2])
    if kind == "push":
        return is_whole_from(value[1], 0, GREATEST_NUM)
    if kind in ("load", "save", "call"):
        return is_word(value[1])
    if kind in ("unless", "go"):
        return is_whole_from(value[1], 0, many - 1)
    return kind == "choose" and are_labels(value[1], many)


def are_drawn(value):
    """Whether any value is a tuple of pairs as a draw has them, with different values."""
    if not are_pairs(value) or not all([is_draw_pair(pair) for pair in value]):
        return False
    return are_different([drawn for drawn, _ in value])


def are_labels(value, many):
    """Whether any value is a tuple of different labels, each with the number of one of so many rows."""
    if not are_pairs(value):
        return False
    if not all([is_word(pair[0]) and is_whole_from(pair[1], 0, many - 1) for pair in value]):
        return False
    return are_different([label for label, _ in value])


def numbers_behind(rows, at):
    """The list of the numbers of the rows that may come behind a row."""
    row = rows[at]
    kind = row[0]
    if kind == "back":
        return []
    if kind == "go":
        return [row[1]]
    if kind == "choose":
        return [number for _, number in row[1]]
    if kind == "unless":
        return [row[1], at + 1]
    return [at + 1]


def heights_of(rows, onward):
    """The list of the heights of rows that have the form of a code, or None if they have none.

    `onward` are the lists of the numbers of the rows that may come behind each.
    """
    heights = [None for _ in rows]
    heights[0] = 0
    waiting = [0]
    while waiting:
        at = waiting.pop()
        taken, put = TAKEN_AND_PUT.get(rows[at][0], (0, 0))
        if heights[at] < taken or is_asking(rows[at]) and heights[at] > 0:
            return None
        height = heights[at] - taken + put
        for number in onward[at]:
            if heights[number] is None:
                heights[number] = height
                waiting.append(number)
            elif heights[number] != height:
                return None
    if None in heights:
        return None
    return heights


def ranks_of(rows, onward):
    """The list of the ranks of rows that have the form of a code, or None if some row has none."""
    ahead = [[] for _ in rows]
    open_ways = [0 for _ in rows]
    ready = []
    for at, row in enumerate(rows):
        if is_asking(row):
            ready.append(at)
        else:
            open_ways[at] = len(onward[at])
            for number in onward[at]:
                ahead[number].append(at)
    ranks = [0 for _ in rows]
    count = 0
    while ready:
        at = ready.pop()
        count += 1
        for before in ahead[at]:
            if ranks[before] <= ranks[at]:
                ranks[before] = ranks[at] + 1
            open_ways[before] -= 1
            if open_ways[before] == 0:
                ready.append(before)
    # rows in a ring in which nothing is asked never become ready
    if count < len(rows):
        return None
    return ranks


def heights_and_ranks(value):
    """The tuple of the heights and the ranks of any value that is a code, or None if it is none."""
    if not isinstance(value, (list, tuple)) or not 1 <= len(value) <= MOST_CODE_ROWS:
        return None
    if not all([is_code_row(row, len(value)) for row in value]):
        return None
    if [at for at, row in enumerate(value) if row[0] == "back"] != [len(value) - 1]:
        return None
    onward = [numbers_behind(value, at) for at in range(len(value))]
    heights = heights_of(value, onward)
    ranks = ranks_of(value, onward)
    if heights is None or ranks is None:
        return None
    return tuple(heights), tuple(ranks)


def is_code(value):
    """Whether any value is a code."""
    return heights_and_ranks(value) is not None


def least_sizes(rows):
    """The tuple of the tuples (name, size) of all names in rows, with the least size that each must have."""
    sizes = {}
    for row in rows:
        if row[0] in ("load", "save"):
            sizes[row[1]] = max(sizes.get(row[1], 0), 1)
        elif row[0] == "draw":
            greatest = max([drawn for drawn, _ in row[2]])
            sizes[row[1]] = max(sizes.get(row[1], 0), greatest + 1)
    return tuple(list(sizes.items()))


class Code:
    """The rows of a code, with the height and the rank of each."""

    def __init__(self, rows):
        found = heights_and_ranks(rows)
        if found is None:
            raise InvalidCode(rows)
        self.rows = tuple(rows)
        self.heights, self.ranks = found
        self.sizes_needed = least_sizes(rows)

    def __eq__(self, other):
        return isinstance(other, Code) and self.rows == other.rows


def row_line(row):
    """The line of a row."""
    if row[0] == "draw":
        pairs = " ".join([f"{value} by {weight}" for value, weight in row[2]])
        return f"draw {row[1]} {pairs}"
    if row[0] == "choose":
        pairs = " ".join([f"{label} {number}" for label, number in row[1]])
        return f"choose {pairs}"
    return " ".join([str(part) for part in row])


def read_row(line):
    """What the row with a line must be; where no row has this line, its line is another one, or it is no row."""
    parts = line.split(" ")
    kind = parts[0]
    if kind == "draw" and len(parts) > 4:
        drawn = [(read_whole(parts[at]), read_whole(parts[at + 2])) for at in range(2, len(parts) - 2, 3)]
        return ("draw", parts[1], tuple(drawn))
    if kind == "choose":
        return ("choose", tuple([(parts[at], read_whole(parts[at + 1])) for at in range(1, len(parts) - 1, 2)]))
    if kind in ("push", "unless", "go") and len(parts) == 2:
        return (kind, read_whole(parts[1]))
    return tuple(parts)


def lines_of(code):
    """The list of the lines of the rows of a code."""
    if not isinstance(code, Code):
        raise InvalidCode(code)
    return [row_line(row) for row in code.rows]


def read_code(lines):
    """The Code with these lines."""
    if not isinstance(lines, (list, tuple)) or not all([isinstance(line, str) for line in lines]):
        raise InvalidLines(lines)
    rows = [read_row(line) for line in lines]
    if not is_code(rows) or [row_line(row) for row in rows] != list(lines):
        raise InvalidLines(lines)
    return Code(rows)
