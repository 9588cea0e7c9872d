"""Compiling bodies to code."""

from fairpatch.checks import check_body
from fairpatch.code import Code

WORDS_FOR_SIGNS = {"+": "add", "-": "take", "*": "times"}


def tree_rows(tree):
    """The list of the rows that leave an expression, or 1 or 0 for a condition, on the pile."""
    kind = tree[0]
    if kind == "num":
        return [("push", tree[1])]
    if kind == "name":
        return [("load", tree[1])]
    if kind == "yes":
        return [("push", 1)]
    rows = []
    for part in tree[1:]:
        rows.extend(tree_rows(part))
    rows.append((WORDS_FOR_SIGNS.get(kind, kind),))
    return rows


class Scribe:
    """Writes the rows of a body, and keeps the numbers of the rows that ask by the paths of their statements."""

    def __init__(self, body):
        self.rows = []
        self.row_numbers = []
        self.write_body(body, ())
        self.rows.append(("back",))

    def write_body(self, body, path):
        """Writes the rows of a body; the paths of its statements begin with the path."""
        for at, statement in enumerate(body):
            self.write_statement(statement, (*path, at))

    def write_statement(self, statement, path):
        """Writes the rows of a statement."""
        kind = statement[0]
        if kind == "set":
            self.rows.extend(tree_rows(statement[2]))
            self.rows.append(("save", statement[1]))
        elif kind == "if":
            self.write_if(statement, path)
        elif kind == "while":
            self.write_while(statement, path)
        else:
            self.row_numbers.append((path, len(self.rows)))
            if kind == "choose":
                self.write_choose(statement, path)
            else:
                self.rows.append(statement)

    def leave_room(self):
        """Leaves room for a row that tells a number which is not known yet, and returns its own number."""
        self.rows.append(None)
        return len(self.rows) - 1

    def write_if(self, statement, path):
        """Writes the rows of an if."""
        self.rows.extend(tree_rows(statement[1]))
        unless = self.leave_room()
        self.write_body(statement[2], (*path, 0))
        last = self.leave_room()
        self.rows[unless] = ("unless", len(self.rows))
        self.write_body(statement[3], (*path, 1))
        self.rows[last] = ("go", len(self.rows))

    def write_while(self, statement, path):
        """Writes the rows of a while."""
        begin = len(self.rows)
        self.rows.extend(tree_rows(statement[1]))
        unless = self.leave_room()
        self.row_numbers.append((path, len(self.rows)))
        self.rows.append(("loop",))
        self.write_body(statement[2], (*path, 0))
        self.rows.append(("go", begin))
        self.rows[unless] = ("unless", len(self.rows))

    def write_choose(self, statement, path):
        """Writes the rows of a choose; behind each of its bodies but the last one, a go leads behind all of them."""
        asking = self.leave_room()
        labels = []
        rooms = []
        for index, (label, body) in enumerate(statement[1]):
            if index > 0:
                rooms.append(self.leave_room())
            labels.append((label, len(self.rows)))
            self.write_body(body, (*path, index))
        self.rows[asking] = ("choose", tuple(labels))
        for room in rooms:
            self.rows[room] = ("go", len(self.rows))


def code_of(body):
    """The Code of a body of a fair system."""
    return Code(Scribe(body).rows)


def compiled(system, unit, body):
    """The Code of a body that a unit can have."""
    check_body(system, unit, body)
    return code_of(body)


def row_numbers(system, unit, body):
    """The ascending list of the tuples (path, number) of the statements of a body at which something is asked."""
    check_body(system, unit, body)
    return Scribe(body).row_numbers
