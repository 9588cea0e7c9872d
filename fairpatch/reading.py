"""Reading texts of systems piece by piece, each of them once."""

from fairpatch.errors import NoSystem
from fairpatch.spaces import GREATEST_SIZE, LEAST_SIZE, MOST_NAMES, is_word
from fairpatch.trees import (
    DEEPEST, GREATEST_NUM, GREATEST_VALUE, GREATEST_WEIGHT, MOST_LOOPS, MOST_STATEMENTS,
    MOST_STATEMENTS_IN_ALL, MOST_UNITS, SIGNS,
)
from fairpatch.wholes import is_whole_from, read_whole

RUN_SIGNS = "abcdefghijklmnopqrstuvwxyz0123456789"
BLANKS = " \n"
STATEMENT_WORDS = ("set", "draw", "choose", "if", "while", "call")
COMPARED = {"<": "less", "=": "same"}


def pieces_of(text):
    """The list of the tuples (piece, index of its first sign) of a string."""
    found = []
    start = 0
    for at, sign in enumerate(text):
        if sign not in RUN_SIGNS:
            if start < at:
                found.append((text[start:at], start))
            if sign not in BLANKS:
                found.append((sign, at))
            start = at + 1
    if start < len(text):
        found.append((text[start:], start))
    return found


class Reader:
    """Reads the pieces of a string, and stops at the first one with which no text goes on.

    Each method begins at a piece with which it can go on, or stops there. The arguments `depth`
    tell how deep an expression or a condition may be, `loops` how many more while may stand one
    in another.
    """

    def __init__(self, string):
        self.string = string
        self.pieces = pieces_of(string)
        self.at = 0
        self.room = 0
        self.room_in_all = MOST_STATEMENTS_IN_ALL

    def peek(self):
        """The piece that comes next, or an empty string behind the last one."""
        if self.at < len(self.pieces):
            return self.pieces[self.at][0]
        return ""

    def stop(self):
        """Raises NoSystem with the place of the piece that comes next."""
        index = len(self.string)
        if self.at < len(self.pieces):
            index = self.pieces[self.at][1]
        ahead = self.string[:index]
        raise NoSystem(ahead.count("\n") + 1, index - ahead.rfind("\n"))

    def take_one_of(self, pieces):
        """Takes one of these pieces, and returns it."""
        piece = self.peek()
        if piece not in pieces:
            self.stop()
        self.at += 1
        return piece

    def take(self, piece):
        """Takes this very piece."""
        return self.take_one_of((piece,))

    def take_word(self):
        """Takes a word."""
        piece = self.peek()
        if not is_word(piece):
            self.stop()
        self.at += 1
        return piece

    def take_number(self, low, high):
        """Takes an integer from `low` to `high`, and returns it."""
        number = read_whole(self.peek())
        if number is None or not low <= number <= high:
            self.stop()
        self.at += 1
        return number

    def take_system(self):
        """The system of which the whole string is a text."""
        names = [self.take_sized_name()]
        while self.peek() == "name" and len(names) < MOST_NAMES:
            names.append(self.take_sized_name())
        units = [self.take_unit()]
        while self.peek() == "unit" and len(units) < MOST_UNITS:
            units.append(self.take_unit())
        if self.at < len(self.pieces):
            self.stop()
        return tuple(names), tuple(units)

    def take_sized_name(self):
        """A name with its size."""
        self.take("name")
        name = self.take_word()
        return name, self.take_number(LEAST_SIZE, GREATEST_SIZE)

    def take_unit(self):
        """A unit with its body."""
        self.take("unit")
        name = self.take_word()
        self.room = MOST_STATEMENTS
        return name, self.take_body(MOST_LOOPS)

    def take_body(self, loops):
        """A body, with the brackets around it."""
        self.take("{")
        statements = []
        while self.peek() != "}":
            statements.append(self.take_statement(loops))
        self.take("}")
        return tuple(statements)

    def take_statement(self, loops):
        """One statement, if there is room for it."""
        kind = self.peek()
        full = self.room == 0 or self.room_in_all == 0
        if full or kind not in STATEMENT_WORDS or kind == "while" and loops == 0:
            self.stop()
        self.at += 1
        self.room -= 1
        self.room_in_all -= 1
        if kind == "set":
            return self.take_set()
        if kind == "draw":
            return ("draw", self.take_word(), self.take_draw_pairs())
        if kind == "choose":
            return ("choose", self.take_choose_pairs(loops))
        if kind == "if":
            return self.take_if(loops)
        if kind == "while":
            return ("while", self.take_condition(DEEPEST), self.take_body(loops - 1))
        return ("call", self.take_word())

    def take_set(self):
        """A set, behind its first word."""
        name = self.take_word()
        self.take("=")
        return ("set", name, self.take_expression(DEEPEST))

    def take_draw_pairs(self):
        """The two or three values with their weights of a draw."""
        pairs = [self.take_draw_pair(), self.take_draw_pair()]
        if is_whole_from(read_whole(self.peek()), 0, GREATEST_VALUE):
            pairs.append(self.take_draw_pair())
        return tuple(pairs)

    def take_draw_pair(self):
        """A value with its weight."""
        value = self.take_number(0, GREATEST_VALUE)
        self.take("by")
        return value, self.take_number(1, GREATEST_WEIGHT)

    def take_choose_pairs(self, loops):
        """The two or three labels with their bodies of a choose."""
        pairs = [self.take_choose_pair(loops)]
        self.take("or")
        pairs.append(self.take_choose_pair(loops))
        if self.peek() == "or":
            self.take("or")
            pairs.append(self.take_choose_pair(loops))
        return tuple(pairs)

    def take_choose_pair(self, loops):
        """A label with its body."""
        label = self.take_word()
        return label, self.take_body(loops)

    def take_if(self, loops):
        """An if, behind its first word."""
        condition = self.take_condition(DEEPEST)
        first = self.take_body(loops)
        self.take("else")
        return ("if", condition, first, self.take_body(loops))

    def take_condition(self, depth):
        """A condition."""
        kind = self.peek()
        if kind == "yes":
            self.take("yes")
            return ("yes",)
        if depth < 2:
            self.stop()
        if kind == "not":
            self.take("not")
            return ("not", self.take_framed(depth - 1))
        if kind == "[":
            left = self.take_framed(depth - 1)
            joined = self.take_one_of(("and", "or"))
            return (joined, left, self.take_framed(depth - 1))
        left = self.take_expression(depth - 1)
        compared = COMPARED[self.take_one_of(("<", "="))]
        return (compared, left, self.take_expression(depth - 1))

    def take_framed(self, depth):
        """A condition, with the brackets around it."""
        self.take("[")
        condition = self.take_condition(depth)
        self.take("]")
        return condition

    def take_expression(self, depth):
        """An expression that stands by itself, so that none of its brackets stands around all of it."""
        if self.peek() == "(":
            return self.go_on_with(self.take_operand(depth - 1), depth)
        left = self.take_leaf()
        if depth > 1 and self.peek() in SIGNS:
            return self.go_on_with(left, depth)
        return left

    def go_on_with(self, left, depth):
        """The expression that goes on with a sign behind its first part."""
        sign = self.take_one_of(SIGNS)
        return (sign, left, self.take_operand(depth - 1))

    def take_operand(self, depth):
        """A part of an expression: one with a sign has brackets around it, which force its depth."""
        if self.peek() != "(":
            return self.take_leaf()
        if depth < 2:
            self.stop()
        self.take("(")
        inner = self.go_on_with(self.take_operand(depth - 1), depth)
        self.take(")")
        return inner

    def take_leaf(self):
        """An integer or a name."""
        if is_word(self.peek()):
            return ("name", self.take_word())
        return ("num", self.take_number(0, GREATEST_NUM))
