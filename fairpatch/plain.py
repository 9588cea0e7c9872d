"""The plain meaning: games of a system, played step by step."""

from fairpatch.checks import check_system
from fairpatch.errors import InvalidAnswer, InvalidSteps
from fairpatch.meaning import holds, number_of
from fairpatch.spaces import Space
from fairpatch.wholes import is_whole_from

MOST_STEPS = 2000


def label_list(choose):
    """The list of the labels of a choose, in order."""
    return [label for label, _ in choose[1]]


def wheel_values(draw):
    """The list of the values that the parts of the wheel of a draw give, in order."""
    values = []
    for value, weight in draw[2]:
        values.extend([value for _ in range(weight)])
    return values


def needs_item(statement):
    """Whether a step takes an item; the statement is None at the end of a unit."""
    return statement is not None and statement[0] in ("choose", "draw")


def fits(statement, item):
    """Whether any value is an item that a choose or a draw can take."""
    if statement[0] == "choose":
        return item in label_list(statement)
    return is_whole_from(item, 0, len(wheel_values(statement)) - 1)


class Frame:
    """A body that has begun, with the statement that comes next; of a unit, if it is its body."""

    def __init__(self, body, unit):
        self.body = body
        self.place = 0
        self.unit = unit


class Playing:
    """A game of a fair system: the store, and the bodies that have begun, one within another."""

    def __init__(self, system, store):
        self.space = Space(system[0])
        self.bodies = dict(system[1])
        self.store = store
        self.begun = []
        unit, body = system[1][-1]
        self.begin(body, unit)

    def begin(self, body, unit=None):
        """Begins a body in the store."""
        self.begun.append(Frame(body, unit))

    def begin_behind(self, body, unit=None):
        """Begins a body; when it is done, the statement behind this one comes next."""
        self.begun[-1].place += 1
        self.begin(body, unit)

    def set_value(self, name, value):
        """Gives a name a value, and goes on behind this statement."""
        self.store = self.space.with_value(self.store, name, value)
        self.begun[-1].place += 1

    def asking(self):
        """Passes what is passed; the statement at which a step is due, or None at the end of a unit."""
        while True:
            frame = self.begun[-1]
            if frame.place < len(frame.body):
                statement = frame.body[frame.place]
                if not self.passes(statement):
                    return statement
            elif frame.unit is not None:
                return None
            else:
                self.begun.pop()

    def passes(self, statement):
        """Whether the statement that comes next is passed; if so, it does this."""
        kind = statement[0]
        values = self.space.values_of(self.store)
        if kind == "set":
            self.set_value(statement[1], number_of(statement[2], values))
        elif kind == "if":
            self.begin_behind(statement[2] if holds(statement[1], values) else statement[3])
        elif kind == "while" and not holds(statement[1], values):
            self.begun[-1].place += 1
        else:
            return False
        return True

    def step(self, statement, item):
        """Takes the step that is due, with its item if it needs one, and returns its line."""
        if statement is None:
            ended = self.begun.pop()
            return f"back {ended.unit}"
        kind = statement[0]
        if kind == "choose":
            self.begin_behind(dict(statement[1])[item])
            return f"choose {item}"
        if kind == "draw":
            wheel = wheel_values(statement)
            self.set_value(statement[1], wheel[item])
            return f"turn {item} of {len(wheel)}"
        if kind == "while":
            self.begin(statement[2])
            return "loop"
        self.begin_behind(self.bodies[statement[1]], statement[1])
        return f"call {statement[1]}"


def check_playing(system, store, answers, steps):
    """Raises what play raises but for items that a step takes."""
    check_system(system)
    Space(system[0]).check_store(store)
    if not is_whole_from(steps, 0, MOST_STEPS):
        raise InvalidSteps(steps)
    if not isinstance(answers, (list, tuple)):
        raise InvalidAnswer(answers)


def play(system, store, answers, steps):
    """The lines of the steps of a game, and the store in which it is over, or None."""
    check_playing(system, store, answers, steps)
    game = Playing(system, store)
    lines = []
    taken = 0
    while game.begun and len(lines) < steps:
        statement = game.asking()
        item = None
        if needs_item(statement):
            if taken == len(answers):
                break
            item = answers[taken]
            taken += 1
            if not fits(statement, item):
                raise InvalidAnswer(answers)
        lines.append(game.step(statement, item))
    end = None if game.begun else game.store
    return lines, end
