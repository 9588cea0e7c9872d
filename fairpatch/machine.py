"""Shelves of editions, and games that go on in them."""

from fairpatch.checks import check_system, with_body
from fairpatch.compiler import Scribe
from fairpatch.code import Code
from fairpatch.errors import (
    InvalidAnswer, InvalidEdition, InvalidPart, InvalidRow, InvalidUnit, NotAsked, TooMany,
)
from fairpatch.flow import Flow
from fairpatch.running import answered, question, settled
from fairpatch.spaces import Space
from fairpatch.wholes import is_whole, is_whole_from

MOST_EDITIONS = 12
MOST_MOVES = 8


class Edition:
    """A body of a unit with its number and its code, and the numbers of rows by paths."""

    def __init__(self, number, body):
        scribe = Scribe(body)
        self.number = number
        self.body = body
        self.code = Code(scribe.rows)
        self.numbers_by_path = dict(scribe.row_numbers)


class Shelf:
    """The editions of the units of a system; one of each unit stands."""

    def __init__(self, system):
        check_system(system)
        self.system = system
        self.units = [unit for unit, _ in system[1]]
        self.kept = {unit: [Edition(0, body)] for unit, body in system[1]}
        self.standing_now = {unit: 0 for unit in self.units}

    def check_shelf_unit(self, unit):
        """Raises InvalidUnit unless this is the name of a unit."""
        if unit not in self.units:
            raise InvalidUnit(unit)

    def edition_at(self, unit, number):
        """The Edition of a unit with a number."""
        self.check_shelf_unit(unit)
        if not is_whole_from(number, 0, len(self.kept[unit]) - 1):
            raise InvalidEdition(number)
        return self.kept[unit][number]

    def published(self):
        """The system."""
        return self.system

    def current(self):
        """The tuple (names, units) with the bodies that stand."""
        bodies = [(unit, self.kept[unit][self.standing_now[unit]].body) for unit in self.units]
        return self.system[0], tuple(bodies)

    def standing(self, unit):
        """The number of the edition of a unit that stands."""
        self.check_shelf_unit(unit)
        return self.standing_now[unit]

    def stand(self, unit, number):
        """Makes an edition of a unit stand."""
        self.standing_now[unit] = self.edition_at(unit, number).number

    def editions(self, unit):
        """The list of the tuples (number, body) of all editions of a unit."""
        self.check_shelf_unit(unit)
        return [(edition.number, edition.body) for edition in self.kept[unit]]

    def body_at(self, unit, number):
        """The body of an edition."""
        return self.edition_at(unit, number).body

    def code_at(self, unit, number):
        """The Code of an edition."""
        return self.edition_at(unit, number).code

    def number_of_body(self, unit, body):
        """The number of the edition of a unit that has this body, or None."""
        for edition in self.kept[unit]:
            if edition.body == body:
                return edition.number
        return None

    def lay(self, unit, body):
        """Lays a new edition there, and returns its number."""
        number = len(self.kept[unit])
        if number == MOST_EDITIONS:
            raise TooMany(number + 1)
        self.kept[unit].append(Edition(number, body))
        return number

    def exchange(self, unit, body):
        """Makes an edition with this body stand, a new one if there is none, and returns its number."""
        with_body(self.system, unit, body)
        number = self.number_of_body(unit, body)
        if number is None:
            number = self.lay(unit, body)
        self.standing_now[unit] = number
        return number


class Call:
    """A call that has begun and has not ended: its unit, the edition in which it goes on, and the row there."""

    def __init__(self, unit, version, at):
        self.unit = unit
        self.version = version
        self.at = at


class Game:
    """A game on a shelf."""

    def __init__(self, shelf, store):
        self.shelf = shelf
        self.space = Space(shelf.published()[0])
        self.space.check_store(store)
        self.store = store
        self.began = store
        self.is_over = False
        self.calls = []
        self.told_lines = []
        self.versions_used = {}
        self.moved = 0
        unit = shelf.published()[1][-1][0]
        self.edition = self.begin_call(unit)

    def begin_call(self, unit):
        """Begins a call of a unit in the edition that stands, and returns its number."""
        version = self.shelf.edition_at(unit, self.shelf.standing(unit))
        at, self.store = settled(self.space, version.code, 0, self.store)
        self.calls.append(Call(unit, version, at))
        self.versions_used[(unit, version.number)] = version
        return version.number

    def asks(self):
        """What is asked, a tuple."""
        if self.is_over:
            return "over", self.store
        call = self.calls[-1]
        asked = question(call.version.code, call.at)
        if asked == ("back",):
            return "back", call.unit
        return asked

    def go_on(self, reply):
        """Goes on in the last call behind an answer that it asks for."""
        call = self.calls[-1]
        call.at, self.store = answered(self.space, call.version.code, call.at, self.store, reply)

    def answer(self, label):
        """Goes on at a choose."""
        asked = self.asks()
        if asked[0] != "choose":
            raise NotAsked()
        if label not in asked[1]:
            raise InvalidAnswer(label)
        self.go_on(label)
        self.told_lines.append(f"choose {label}")

    def turn(self, part):
        """Goes on at a draw."""
        asked = self.asks()
        if asked[0] != "turn":
            raise NotAsked()
        if not is_whole_from(part, 0, asked[1] - 1):
            raise InvalidPart(part)
        self.go_on(part)
        self.told_lines.append(f"turn {part} of {asked[1]}")

    def go(self):
        """Goes on at a loop, at a call and at a back."""
        asked = self.asks()
        if asked[0] == "loop":
            self.go_on(None)
            self.told_lines.append("loop")
        elif asked[0] == "call":
            number = self.begin_call(asked[1])
            self.told_lines.append(f"call {asked[1]} {number}")
        elif asked[0] == "back":
            self.end_call()
            self.told_lines.append(f"back {asked[1]}")
        else:
            raise NotAsked()

    def end_call(self):
        """Ends the last call, and goes on behind it in the one that waits for it, if there is one."""
        self.calls.pop()
        if self.calls:
            self.go_on(self.store)
        else:
            self.is_over = True

    def frames(self):
        """The list of the tuples (unit, edition, row) of all calls that have begun and have not ended."""
        return [(call.unit, call.version.number, call.at) for call in self.calls]

    def used(self):
        """The list of the tuples (unit, number, body) of all editions in which a call of the game was."""
        found = []
        for unit in self.shelf.units:
            for number, body in self.shelf.editions(unit):
                if (unit, number) in self.versions_used:
                    found.append((unit, number, body))
        return found

    def move(self, number, place):
        """Lets the last call go on in an edition of its unit, at a place in its body."""
        if self.is_over:
            raise NotAsked()
        call = self.calls[-1]
        version = self.shelf.edition_at(call.unit, number)
        if not self.is_place_in(version.body, place):
            raise InvalidRow(place)
        if self.moved == MOST_MOVES:
            raise TooMany(self.moved + 1)
        path = "end"
        call.version = version
        call.at = len(version.code.rows) - 1
        if isinstance(place, tuple):
            path = ".".join([str(index) for index in place[0]])
            call.at = version.numbers_by_path[place[0]]
        self.moved += 1
        self.versions_used[(call.unit, number)] = version
        self.told_lines.append(f"move {call.unit} {number} {path}")

    def is_place_in(self, body, place):
        """Whether any value is a place of a body with the store of the game."""
        if isinstance(place, tuple):
            return Flow(self.space, body).is_place_row(place) and place[1] == self.store
        return is_whole(place) and place == self.store

    def lines(self):
        """The list of the lines of all steps and moves."""
        return list(self.told_lines)
