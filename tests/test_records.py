import time
import unittest
from random import Random

from fairpatch.checks import is_fair, with_body
from fairpatch.errors import InvalidGame, InvalidRecord, InvalidSystem, NotFair, PatchError
from fairpatch.house import House
from fairpatch.records import is_record, record_of, replay
from fairpatch.registry import Registry
from fairpatch.texts import is_tree, read_system
from tests.houses import CLUB, LOOP, HouseMaker, some_house, wrong_numbers
from tests.judges import all_new, is_int, is_list, is_tuple
from tests.samples import any_values
from tests.small import spoiled
from tests.test_machine import TextGame
from tests.walks import Walk

OTHERS = [None, True, 0, 12, (), [], "", "loop", "call game 1", "move game 0 end"]


class Told:
    """What TextGame needs to know: bodies by numbers, and what stands when a call begins."""

    def __init__(self, system, editions):
        self.system, self.stands = system, {}
        self.bodies = {unit: {} for unit, _ in system[1]}
        for unit, number, body in editions:
            self.bodies[unit][number] = body


class MovedGame(TextGame):
    """A game that keeps its moves: the unit, the edition and the place ahead, those behind."""

    def __init__(self, told, store):
        self.moves = []
        super().__init__(told, store)

    def move(self, number, place):
        self.moves.append((*self.frames[-1], number, place))
        super().move(number, place)


def number_told(told, unit, word):
    """The edition that a word tells of a unit, None if there is none."""
    for number in told.bodies[unit]:
        if word == str(number):
            return number
    return None


def takes(told, text, line, moves):
    """Whether a line fits behind those ahead of it; if so, it is done."""
    asked = text.asks()
    words = line.split(" ")
    if words[0] == "move" and text.frames and len(words) == 4 and words[1] == text.frames[-1][0]:
        number = number_told(told, words[1], words[2])
        if number is None or moves >= 8:
            return False
        for place in [text.store] + [row for row in Walk(told.system[0], told.bodies[words[1]][number]).all_rows() if row[1] == text.store]:
            if words[3] == (".".join(map(str, place[0])) if isinstance(place, tuple) else "end"):
                text.move(number, place)
                return True
        return False
    if asked[0] == "choose" and line in [f"choose {label}" for label in asked[1]]:
        text.step(words[1])
    elif asked[0] == "turn" and line in [f"turn {part} of {asked[1]}" for part in range(asked[1])]:
        text.step(int(words[1]))
    elif line == " ".join(map(str, asked)) and asked[0] in ("loop", "back"):
        text.step(None)
    elif asked[0] == "call" and len(words) == 3 and words[:2] == ["call", asked[1]] and number_told(told, asked[1], words[2]) is not None:
        told.stands[asked[1]] = number_told(told, asked[1], words[2])
        text.step(None)
    else:
        return False
    return True


def judged(system, value):
    """The TextGame of any value that is a record of a fair system, None if it is none."""
    if not is_tuple(value, 3) or not is_list(value[1]) or not is_list(value[2]) or not value[2]:
        return None
    store, editions, lines = value
    if not is_int(store) or not 0 <= store < Walk(system[0], ()).never or not all(type(line) is str for line in lines):
        return None
    units, keys = [unit for unit, _ in system[1]], []
    for item in editions:
        if not is_tuple(item, 3) or type(item[0]) is not str or item[0] not in units or not is_int(item[1]) or not 0 <= item[1] <= 11:
            return None
        try:
            with_body(system, item[0], item[2])
        except PatchError:
            return None
        if (item[1] == 0) != (item[2] == dict(system[1])[item[0]]):
            return None
        keys.append((units.index(item[0]), item[1]))
    if keys != sorted(set(keys)) or len({(unit, repr(body)) for unit, _, body in editions}) < len(keys):
        return None
    told = Told(system, editions)
    head = lines[0].rpartition(" ")
    number = number_told(told, units[-1], head[2])
    if head[0] != f"call {units[-1]}" or number is None:
        return None
    told.stands[units[-1]] = number
    text = MovedGame(told, store)
    for line in lines[1:]:
        if not takes(told, text, line, sum(one.startswith("move") for one in text.lines)):
            return None
    return text if text.used == {(unit, number) for unit, number, _ in editions} else None


class RecordTests(unittest.TestCase):
    def refused(self, error, given, call, *arguments):
        with self.assertRaises(error) as caught:
            call(*arguments)
        self.assertIs(caught.exception.given, given)

    def test_of_games(self):
        random, seen = Random(231), {"moves": 0, "over": 0, "editions": 0, "cut": 0}
        for _ in range(70):
            house = some_house(random, games=2, steps=14, maker=HouseMaker(random, 6), units=random.randrange(1, 4))
            system = house.registry.published()
            for game in range(2):
                record = record_of(house=house, game=game)
                all_new(self, record, record_of(house, game))
                store, number = house.start_of(game)
                self.assertEqual(record[0], store)
                self.assertEqual(record[2], [f"call {system[1][-1][0]} {number}", *house.lines(game)])
                self.assertEqual([type(part) for part in record], [int, list, list])
                text = judged(system, record)
                order = {unit: at for at, (unit, _) in enumerate(system[1])}
                told = sorted(text.used, key=lambda one: (order[one[0]], one[1]))
                self.assertEqual(record[1], [(unit, at, house.registry.body_at(unit, at)) for unit, at in told])
                self.assertIs(is_record(system=system, value=record), True)
                self.assertEqual(replay(system, record), (house.asks(game), house.store_now(game), house.frames(game)))
                all_new(self, replay(system, record), replay(system=system, record=record))
                seen["moves"] += any(line.startswith("move") for line in record[2])
                seen["over"] += house.asks(game)[0] == "over"
                seen["editions"] += any(at for _, at, _ in record[1])
                seen["cut"] += self.cuts(system, record)
                as_others = (record[0], tuple(record[1]), tuple(record[2]))
                self.assertTrue(is_record(system, as_others))
                self.assertEqual(replay(system, as_others), replay(system, record))
        self.assertGreater(min(seen.values()), 10)

    def cuts(self, system, record):
        """A record without some last lines is the one of the game then."""
        for many in range(1, len(record[2])):
            lines = record[2][:many]
            cut = (record[0], [one for one in record[1] if any(
                line.startswith((f"call {one[0]} {one[1]}", f"move {one[0]} {one[1]} ")) and line.split(" ")[2] == str(one[1]) for line in lines)], lines)
            text = judged(system, cut)
            self.assertTrue(is_record(system, cut))
            self.assertEqual(replay(system, cut), (text.asks(), text.store, [tuple(frame) for frame in text.frames]))
            if cut[1] != record[1]:
                self.assertFalse(is_record(system, (record[0], record[1], lines)))
        return len(record[2]) > 3

    def test_spoiled(self):
        random, seen = Random(232), {True: 0, False: 0}
        for _ in range(60):
            house = some_house(random, games=1, steps=10, maker=HouseMaker(random, 4), units=random.randrange(1, 4))
            system, record = house.registry.published(), record_of(house, 0)
            spoils = list(spoiled(record, OTHERS))
            lines = record[2]
            for at in range(len(lines)):
                for line in [lines[at] + " ", " " + lines[at], lines[at].replace(" ", "  "), lines[at].replace("0", "00"), lines[at].upper(),
                             lines[at].replace("turn 0", "turn 1"), lines[at].replace("0", "1"), "loop", lines[at] + " 0", lines[at] + "\n"]:
                    spoils.append((record[0], record[1], [*lines[:at], line, *lines[at + 1:]]))
                spoils.append((record[0], record[1], [*lines[:at], *lines[at + 1:], lines[at]]))
            for value in random.sample(spoils, min(150, len(spoils))):
                text = judged(system, value)
                seen[text is not None] += 1
                self.assertIs(is_record(system, value), text is not None, value)
                if text is None:
                    self.refused(InvalidRecord, value, replay, system, value)
                else:
                    self.assertEqual(replay(system, value), (text.asks(), text.store, [tuple(frame) for frame in text.frames]))
        self.assertGreater(min(seen.values()), 100)

    def test_editions(self):
        system = read_system("name a 3 unit u { set a = 1 } unit g { call u }")
        one, two, game = dict(system[1])["u"], (("set", "a", ("num", 2)),), dict(system[1])["g"]
        head = ("g", 0, game)
        lines = ["call g 0", "call u 1"]
        good = (0, [("u", 1, two), head], lines)
        self.assertTrue(is_record(system, good))
        # the body of the published edition has the number 0 alone, and no other body has it
        for editions, lines, right in [
            ([("u", 11, two), head], ["call g 0", "call u 11"], True), ([("u", 12, two), head], ["call g 0", "call u 12"], False),
            ([("u", 0, two), head], ["call g 0", "call u 0"], False), ([("u", 1, one), head], lines, False),
            ([("u", 0, one), head], ["call g 0", "call u 0"], True), ([("u", 0, one), ("u", 1, two), head], lines, False),
            ([head, ("u", 1, two)], lines, False), ([("u", 1, two), ("u", 1, two), head], lines, False), ([("u", 1, two)], lines, False),
            ([("u", 1, two), head, ("v", 1, two)], lines, False), ([("u", True, two), head], lines, False), ([("u", 1, list(two)), head], lines, False),
            ([["u", 1, two], head], lines, False), ([("u", -1, two), head], ["call g 0", "call u -1"], False),
            ([("u", 1, (("call", "u"),)), head], lines, False), ([("u", 1, (("set", "b", ("num", 1)),)), head], lines, False),
            ([("u", 1, two * 21), head], lines, False), ([("u", 1, (("set", "a", ("num", True)),)), head], lines, False),
            ([("u", 7, ()), ("g", 3, (("call", "u"), ("call", "u")))], ["call g 3", "call u 7"], True),
            ([("u", 1, two), ("u", 2, two), head], ["call g 0", "call u 1", "move u 2 end"], False),
            ([("u", 1, two), ("u", 3, ()), head], ["call g 0", "call u 1", "move u 3 end"], True),
            ([("u", 1, two), ("u", 1, ()), head], ["call g 0", "call u 1"], False), ([("u", 1, ()), ("u", 1, two), head], lines, False),
            ([("u", 1, two), ("u", 3, ()), head], ["call g 0", "call u 1", "move u 3 0"], False),
            ([("u", 3, ()), ("u", 1, two), head], ["call g 0", "call u 1", "move u 3 end"], False),
            ([("u", 1, two), ("u", 4, two * 2), head], ["call g 0", "call u 4", "move u 1 end", "back u", "back g"], True),
            ([("u", 1, two), head], ["call g 0", "call u 1", "back u", "back g", "back g"], False),
            ([("u", 1, two), head], ["call g 0", "call u 1", "back u", "back g", "move g 0 end"], False),
            ([head], ["call g 0"], True), ([head], [], False), ([], [], False), ([head], ["call g"], False), ([head], ["call g 0 0"], False),
        ]:
            for value in [(0, editions, lines), (2, tuple(editions), tuple(lines))]:
                self.assertIs(is_record(system, value), right, value)
                self.assertIs(judged(system, value) is not None, right, value)
        for wrong in wrong_numbers(3):
            value = (wrong, good[1], good[2])
            self.assertFalse(is_record(system, value))
            self.refused(InvalidRecord, value, replay, system, value)
        for value in [list(good), good[:2], (*good, None), (0, good[1], "call g 0"), (0, {"a": 1}, good[2]), (0, good[1], [*good[2], None])]:
            self.assertFalse(is_record(system, value))

    def test_sixty_statements(self):
        fill = "set a = 1 " * 20
        system = read_system(f"name a 3 unit u {{ {fill} }} unit v {{ {fill} }} unit w {{ set a = 1 }} unit g {{ }}")
        body = (("set", "a", ("num", 2)),) * 20
        self.assertTrue(is_record(system, (0, [("g", 1, body[:19])], ["call g 1"])))
        self.assertFalse(is_record(system, (0, [("g", 1, body)], ["call g 1"])))

    def test_moves(self):
        system = read_system(LOOP)
        head = [("game", 0, dict(system[1])["game"])]
        self.assertTrue(is_record(system, (0, head, ["call game 0", *["move game 0 0"] * 8, "loop"])))
        self.assertFalse(is_record(system, (0, head, ["call game 0", *["move game 0 0"] * 9])))
        # a record judges places alone: whether a move is let by is no matter here
        self.assertTrue(is_record(system, (0, head, ["call game 0", "loop", "move game 0 end", "back game"])))
        self.assertEqual(replay(system, (0, head, ["call game 0", "loop", "move game 0 end"])), (("back", "game"), 0, [("game", 0, 0)]))
        for line in ["move game 0 0.0.1", "move game 0 00", "move game 0 -1", "move game 1 0", "move play 0 0", "move game 0", "move game 0 0 0",
                     "move game 0 end ", "move game 0 End", "move game 0 0.", "move game 0 .0", "move game 0 0.0", "move game  0 0", "move game 0 "]:
            self.assertFalse(is_record(system, (0, head, ["call game 0", line])), line)
        self.assertFalse(is_record(system, (2, head, ["call game 0", "move game 0 0"])))
        self.assertTrue(is_record(system, (2, head, ["call game 0", "move game 0 0.0.0"])))

    def test_values_of_all_kinds(self):
        system = read_system(CLUB)
        for value in [*any_values(), House(Registry(system)), Registry(system)]:
            self.assertIs(is_record(value=value, system=system), False)
            self.refused(InvalidRecord, value, replay, system, value)
            if not is_tree(value):
                self.refused(InvalidSystem, value, is_record, value, None)
                self.refused(InvalidSystem, value, replay, value, None)
        unfair = read_system("name a 2 unit g { call g }")
        self.assertFalse(is_fair(unfair))
        for call in (is_record, replay):
            with self.assertRaises(NotFair):
                call(unfair, (0, [("g", 0, ())], ["call g 0"]))

    def test_games(self):
        house = House(Registry(read_system(LOOP)))
        for value in [*any_values(), *wrong_numbers(0)]:
            self.refused(InvalidGame, value, record_of, house, value)
        house.begin(1)
        for value in wrong_numbers(1):
            self.refused(InvalidGame, value, record_of, house, value)
        record = record_of(house, 0)
        record[1].append(None), record[2].append("loop")
        self.assertEqual(record_of(house, 0), (1, [("game", 0, dict(read_system(LOOP)[1])["game"])], ["call game 0"]))

    def test_long_records(self):
        house = House(Registry(read_system(LOOP)))
        house.begin(0)
        for _ in range(400):
            house.step(0), house.step(0, "wait")
        record = record_of(house, 0)
        self.assertEqual(len(record[2]), 801)
        begun = time.perf_counter()
        self.assertTrue(is_record(house.registry.published(), record))
        self.assertEqual(replay(house.registry.published(), record)[0], ("loop",))
        self.assertLess(time.perf_counter() - begun, 0.5)


if __name__ == "__main__":
    unittest.main()
