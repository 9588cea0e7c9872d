"""Games that go on in texts: calls that stand at places of bodies, and the lines of their steps and moves."""

from fairpatch.machine import MOST_EDITIONS, MOST_MOVES, place_text
from fairpatch.plain import label_list, wheel_values


class TextCall:
    """A call that has begun and has not ended: its unit, its edition, the ways through the body, the place there."""

    def __init__(self, unit, number, flow):
        self.unit = unit
        self.number = number
        self.flow = flow
        self.place = None


class TextGame:
    """A game by the texts alone, from the call of the last unit on."""

    def __init__(self, store):
        self.store = store
        self.calls = []

    def begin(self, unit, number, flow):
        """Begins a call in the edition with a number, through whose body the flow leads."""
        self.calls.append(TextCall(unit, number, flow))
        self.come_to(flow.place_at_first(self.store))

    def come_to(self, place):
        """Lets the last call stand at a place."""
        call = self.calls[-1]
        call.place = place
        self.store = place[1] if isinstance(place, tuple) else place

    def asks(self):
        """What is asked, a tuple."""
        if not self.calls:
            return "over", self.store
        call = self.calls[-1]
        if not isinstance(call.place, tuple):
            return "back", call.unit
        statement = call.flow.by_path[call.place[0]]
        if statement[0] == "choose":
            return "choose", tuple(label_list(statement))
        if statement[0] == "draw":
            return "turn", len(wheel_values(statement))
        if statement[0] == "while":
            return ("loop",)
        return statement

    def step(self, answer):
        """Goes on behind a right answer to what is asked, but at a call."""
        call = self.calls[-1]
        if not isinstance(call.place, tuple):
            self.end_call()
            return
        path, store = call.place
        statement = call.flow.by_path[path]
        if statement[0] == "draw":
            turned = call.flow.space.with_value(store, statement[1], wheel_values(statement)[answer])
            self.come_to(call.flow.place_behind(path, turned))
        else:
            index = 0
            if statement[0] == "choose":
                index = label_list(statement).index(answer)
            self.come_to(call.flow.places_inside(path, store)[index])

    def end_call(self):
        """Ends the last call, and goes on behind it in the one that waits for it, if there is one."""
        self.calls.pop()
        if self.calls:
            call = self.calls[-1]
            self.come_to(call.flow.place_behind(call.place[0], self.store))

    def frames(self):
        """The list of the tuples (unit, edition, place) of all calls that have begun and have not ended."""
        return [(call.unit, call.number, call.place) for call in self.calls]


def answers_with(asked, line):
    """The list of the answers to what is asked whose step has this line: of one answer, or of none."""
    if asked[0] == "choose":
        return [label for label in asked[1] if line == f"choose {label}"]
    if asked[0] == "turn":
        return [part for part in range(asked[1]) if line == f"turn {part} of {asked[1]}"]
    if asked[0] in ("loop", "back") and line == " ".join(asked):
        return [None]
    return []


def numbers_with(head, line):
    """The list of the numbers of editions behind a head with which a line begins as words: of one, or of none."""
    words = line + " "
    return [number for number in range(MOST_EDITIONS) if words.startswith(f"{head} {number} ")]


def places_with(flow, store, text):
    """The list of the places of a body with a store that lines of moves tell so: of one place, or of none."""
    places = [store]
    for path in flow.by_path:
        if flow.passed(path, store) is None:
            places.append((path, store))
    return [place for place in places if place_text(place) == text]


class Retelling:
    """A game that goes on line by line in some editions, which are told by a dict of their Flows."""

    def __init__(self, unit, store, flows):
        self.unit = unit
        self.flows = flows
        self.game = TextGame(store)
        self.told = {}
        self.moves_told = []

    def takes_all(self, lines):
        """Whether all lines of a record fit; if so, the game begins, and goes on by them."""
        if not self.begins_with(lines[0]):
            return False
        for line in lines[1:]:
            if not self.takes(line):
                return False
        return True

    def begins_with(self, line):
        """Whether a line fits as the first one; if so, the game begins."""
        return self.takes_call(self.unit, line)

    def takes(self, line):
        """Whether a line fits; if so, the game goes on by it."""
        if line.startswith("move "):
            return self.takes_move(line)
        asked = self.game.asks()
        if asked[0] == "call":
            return self.takes_call(asked[1], line)
        for answer in answers_with(asked, line):
            self.game.step(answer)
            return True
        return False

    def takes_call(self, unit, line):
        """Whether a line tells the beginning of a call of a unit; if so, it begins."""
        for number in numbers_with(f"call {unit}", line):
            if (unit, number) in self.flows and line == f"call {unit} {number}":
                self.told[(unit, number)] = True
                self.game.begin(unit, number, self.flows[(unit, number)])
                return True
        return False

    def takes_move(self, line):
        """Whether a line tells a move of the last call; if so, it is done, and kept with where the call stood."""
        if not self.game.calls or len(self.moves_told) == MOST_MOVES:
            return False
        call = self.game.calls[-1]
        head = f"move {call.unit}"
        for number in numbers_with(head, line):
            text = line[len(f"{head} {number} "):]
            if (call.unit, number) not in self.flows:
                return False
            flow = self.flows[(call.unit, number)]
            for place in places_with(flow, self.game.store, text):
                self.moves_told.append((call.unit, call.number, call.place, number, place))
                self.told[(call.unit, number)] = True
                call.number = number
                call.flow = flow
                self.game.come_to(place)
                return True
        return False
