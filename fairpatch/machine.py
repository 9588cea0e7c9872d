"""Shelves of editions, and games that go on in them."""

from fairpatch.checks import Bounds, checked_counts
from fairpatch.code import Code
from fairpatch.compiler import Scribe
from fairpatch.errors import (
    InvalidAnswer, InvalidEdition, InvalidPart, InvalidRow, InvalidUnit, NotAsked, TooMany,
)
from fairpatch.flow import Flow
from fairpatch.running import answered, question, settled
from fairpatch.spaces import Space
from fairpatch.wholes import is_whole, is_whole_from

MOST_EDITIONS = 12
MOST_MOVES = 8


class Edition:
    """A body of a unit with its number; its code and the ways through it are worked out when they are first needed."""

    def __init__(self, number, body):
        self.number = number
        self.body = body
        self.code_written = None
        self.numbers_by_path = {}
        self.paths_by_number = {}
        self.flow_laid = None

    def code(self):
        """The Code of the body."""
        if self.code_written is None:
            scribe = Scribe(self.body)
            self.numbers_by_path = dict(scribe.row_numbers)
            self.paths_by_number = {number: path for path, number in scribe.row_numbers}
            self.code_written = Code(scribe.rows)
        return self.code_written

    def flow_in(self, space):
        """The Flow of the body in the space of its system."""
        if self.flow_laid is None:
            self.flow_laid = Flow(space, self.body)
        return self.flow_laid


class Shelf:
    """The editions of the units of a system; one of each unit stands."""

    def __init__(self, system):
        self.bounds = Bounds(system, checked_counts(system))
        self.system = system
        self.space = Space(system[0])
        self.units = [unit for unit, _ in system[1]]
        self.kept = {unit: [Edition(0, body)] for unit, body in system[1]}
        self.standing_now = {unit: 0 for unit in self.units}

    def check_shelf_unit(self, unit):
        """Raises InvalidUnit unless this is the name of a unit."""
        if unit not in self.units:
            raise InvalidUnit(unit)

    def edition_at(self, unit, number):
        """The Edition of a unit with a number."""
        self.check_shelf_unit(unit)
        if not is_whole_from(number, 0, len(self.kept[unit]) - 1):
            raise InvalidEdition(number)
        return self.kept[unit][number]

    def published(self):
        """The system."""
        return self.system

    def current(self):
        """The tuple (names, units) with the bodies that stand."""
        bodies = [(unit, self.kept[unit][self.standing_now[unit]].body) for unit in self.units]
        return self.system[0], tuple(bodies)

    def standing(self, unit):
        """The number of the edition of a unit that stands."""
        self.check_shelf_unit(unit)
        return self.standing_now[unit]

    def stand(self, unit, number):
        """Makes an edition of a unit stand."""
        self.standing_now[unit] = self.edition_at(unit, number).number

    def editions(self, unit):
        """The list of the tuples (number, body) of all editions of a unit."""
        self.check_shelf_unit(unit)
        return [(edition.number, edition.body) for edition in self.kept[unit]]

    def body_at(self, unit, number):
        """The body of an edition."""
        return self.edition_at(unit, number).body

    def code_at(self, unit, number):
        """The Code of an edition."""
        return self.edition_at(unit, number).code()

    def number_of_body(self, unit, body):
        """The number of the edition of a unit that has this body, or None."""
        for edition in self.kept[unit]:
            if edition.body == body:
                return edition.number
        return None

    def number_for(self, unit, body):
        """The number of the edition that has a body, or that it would have as a new one."""
        self.check_shelf_unit(unit)
        # the system has been judged when the shelf was made, so the body alone is judged here
        self.bounds.check_body(unit, body)
        number = self.number_of_body(unit, body)
        if number is not None:
            return number
        count = len(self.kept[unit])
        if count == MOST_EDITIONS:
            raise TooMany(count + 1)
        return count

    def put(self, unit, number, body):
        """Makes the edition with this number stand; it is laid there with the body first if it is a new one."""
        if number == len(self.kept[unit]):
            self.kept[unit].append(Edition(number, body))
        self.standing_now[unit] = number

    def exchange(self, unit, body):
        """Makes an edition with this body stand, a new one if there is none, and returns its number."""
        number = self.number_for(unit, body)
        self.put(unit, number, body)
        return number


def place_text(place):
    """A place of a body, as the lines of moves tell it."""
    if isinstance(place, tuple):
        return ".".join([str(index) for index in place[0]])
    return "end"


class Call:
    """A call that has begun and has not ended: its unit, the edition in which it goes on, its row and its store."""

    def __init__(self, unit, version, at, store):
        self.unit = unit
        self.version = version
        self.at = at
        self.store = store

    def spot(self):
        """The place in the body at which the call stands."""
        if self.at in self.version.paths_by_number:
            return self.version.paths_by_number[self.at], self.store
        return self.store


class Game:
    """A game on a shelf."""

    def __init__(self, shelf, store):
        self.shelf = shelf
        self.space = shelf.space
        self.space.check_store(store)
        self.store = store
        self.began = store
        self.is_over = False
        self.calls = []
        self.told_lines = []
        self.versions_used = {}
        self.moved = 0
        unit = shelf.published()[1][-1][0]
        self.edition = self.begin_call(unit)

    def begin_call(self, unit):
        """Begins a call of a unit in the edition that stands, and returns its number."""
        version = self.shelf.edition_at(unit, self.shelf.standing(unit))
        at, self.store = settled(self.space, version.code(), 0, self.store)
        self.calls.append(Call(unit, version, at, self.store))
        self.versions_used[(unit, version.number)] = version
        return version.number

    def asks(self):
        """What is asked, a tuple."""
        if self.is_over:
            return "over", self.store
        call = self.calls[-1]
        asked = question(call.version.code(), call.at)
        if asked == ("back",):
            return "back", call.unit
        return asked

    def go_on(self, reply):
        """Goes on in the last call behind an answer that it asks for."""
        call = self.calls[-1]
        call.at, self.store = answered(self.space, call.version.code(), call.at, self.store, reply)
        call.store = self.store

    def answer(self, label):
        """Goes on at a choose."""
        asked = self.asks()
        if asked[0] != "choose":
            raise NotAsked()
        if label not in asked[1]:
            raise InvalidAnswer(label)
        self.go_on(label)
        self.told_lines.append(f"choose {label}")

    def turn(self, part):
        """Goes on at a draw."""
        asked = self.asks()
        if asked[0] != "turn":
            raise NotAsked()
        if not is_whole_from(part, 0, asked[1] - 1):
            raise InvalidPart(part)
        self.go_on(part)
        self.told_lines.append(f"turn {part} of {asked[1]}")

    def go(self):
        """Goes on at a loop, at a call and at a back."""
        asked = self.asks()
        if asked[0] == "loop":
            self.go_on(None)
            self.told_lines.append("loop")
        elif asked[0] == "call":
            number = self.begin_call(asked[1])
            self.told_lines.append(f"call {asked[1]} {number}")
        elif asked[0] == "back":
            self.end_call()
            self.told_lines.append(f"back {asked[1]}")
        else:
            raise NotAsked()

    def end_call(self):
        """Ends the last call, and goes on behind it in the one that waits for it, if there is one."""
        self.calls.pop()
        if self.calls:
            self.go_on(self.store)
        else:
            self.is_over = True

    def frames(self):
        """The list of the tuples (unit, edition, row) of all calls that have begun and have not ended."""
        return [(call.unit, call.version.number, call.at) for call in self.calls]

    def places(self):
        """The list of the tuples (unit, edition, place) of all calls that have begun and have not ended."""
        return [(call.unit, call.version.number, call.spot()) for call in self.calls]

    def used(self):
        """The list of the tuples (unit, number, body) of all editions in which a call of the game was."""
        found = []
        for unit in self.shelf.units:
            for number, body in self.shelf.editions(unit):
                if (unit, number) in self.versions_used:
                    found.append((unit, number, body))
        return found

    def move(self, number, place):
        """Lets the last call go on in an edition of its unit, at a place in its body."""
        self.check_move(number, place)
        call = self.calls[-1]
        version = self.shelf.edition_at(call.unit, number)
        call.version = version
        call.at = len(version.code().rows) - 1
        if isinstance(place, tuple):
            call.at = version.numbers_by_path[place[0]]
        self.moved += 1
        self.versions_used[(call.unit, number)] = version
        self.told_lines.append(f"move {call.unit} {number} {place_text(place)}")

    def check_move(self, number, place):
        """Raises what move raises."""
        if self.is_over:
            raise NotAsked()
        version = self.shelf.edition_at(self.calls[-1].unit, number)
        if not self.is_place_in(version, place):
            raise InvalidRow(place)
        if self.moved == MOST_MOVES:
            raise TooMany(self.moved + 1)

    def is_place_in(self, version, place):
        """Whether any value is a place of the body of an edition with the store of the game."""
        if isinstance(place, tuple):
            return version.flow_in(self.space).is_place_row(place) and place[1] == self.store
        return is_whole(place) and place == self.store

    def lines(self):
        """The list of the lines of all steps and moves."""
        return list(self.told_lines)
