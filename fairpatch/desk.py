"""Desks: tables under names, each with a house, and patches of many units that can be undone."""

from fairpatch.checks import check_system
from fairpatch.errors import (
    InvalidLines, InvalidName, InvalidSystem, NoThing, NothingToUndo, PatchError, TooMany,
)
from fairpatch.house import House
from fairpatch.pictures import go_on, picture
from fairpatch.registry import Registry, are_strings, blocks_of
from fairpatch.spaces import is_word
from fairpatch.stands import paper_over
from fairpatch.texts import read_system, write_system
from fairpatch.wholes import read_whole

MOST_TABLES = 8
MOST_PATCHES = 8


class Table:
    """A house, and for each patch that can be undone what stood ahead of it."""

    def __init__(self, house, patches):
        self.house = house
        self.patches = patches


class Desk:
    """Tables under names."""

    def __init__(self):
        self.by_name = {}

    def tables(self):
        """The ascending list of the names."""
        return sorted(list(self.by_name))

    def __len__(self):
        return len(self.by_name)

    def __contains__(self, name):
        return isinstance(name, str) and name in self.by_name

    def __eq__(self, other):
        return isinstance(other, Desk) and self.lines() == other.lines()

    def table_at(self, name):
        """The Table under a name."""
        if name not in self:
            raise NoThing(name)
        return self.by_name[name]

    def check_new(self, name):
        """Raises InvalidName unless this is a word that is no name yet."""
        if not is_word(name) or name in self:
            raise InvalidName(name)

    def check_room(self):
        """Raises TooMany if there is no room for a table more."""
        count = len(self.by_name)
        if count == MOST_TABLES:
            raise TooMany(count + 1)

    def house_of(self, name):
        """The house of a table."""
        return self.table_at(name).house

    def lay(self, name, text):
        """Puts a table for the system of a text under a new name."""
        self.check_new(name)
        registry = Registry(read_system(text))
        self.check_room()
        self.by_name[name] = Table(House(registry), [])

    def drop(self, name):
        """Takes a table away."""
        self.table_at(name)
        self.by_name.pop(name)

    def rename(self, name, new):
        """Puts a table under a new name instead."""
        table = self.table_at(name)
        self.check_new(new)
        self.by_name.pop(name)
        self.by_name[new] = table

    def twin(self, name, new):
        """Puts a second table, which goes on as the first one stands, under a new name."""
        table = self.table_at(name)
        self.check_new(new)
        self.check_room()
        self.by_name[new] = Table(go_on(picture(table.house)), list(table.patches))

    def changed_bodies(self, name, text):
        """The list of the tuples (unit, body) of the units whose body in a text is not the one that stands."""
        registry = self.table_at(name).house.registry
        system = read_system(text)
        check_system(system)
        published = registry.published()
        if system[0] != published[0] or [unit for unit, _ in system[1]] != [unit for unit, _ in published[1]]:
            raise InvalidSystem(system)
        standing = dict(registry.current()[1])
        return [(unit, body) for unit, body in system[1] if body != standing[unit]]

    def patch(self, name, text):
        """Exchanges the bodies that a text has otherwise, all or none: the units and the editions that stand now."""
        bodies = self.changed_bodies(name, text)
        table = self.table_at(name)
        registry = table.house.registry
        # all are judged before any is exchanged
        judged = [registry.judged(unit, body) for unit, body in bodies]
        stood = tuple([(unit, registry.standing(unit)) for unit, _ in bodies])
        for change in judged:
            registry.accept(change)
        if bodies:
            patches = [*table.patches, stood]
            table.patches = patches[-MOST_PATCHES:]
        return [(change.unit, change.number) for change in judged]

    def preview(self, name, text):
        """The list of the tuples (unit, paper) of what a patch would exchange, None for what is there already."""
        bodies = self.changed_bodies(name, text)
        registry = self.house_of(name).registry
        found = []
        for unit, body in bodies:
            registry.bounds.check_body(unit, body)
            paper = None
            if registry.number_of_body(unit, body) is None:
                paper = paper_over(registry.ground.new_site(unit, body))
            found.append((unit, paper))
        return found

    def undo(self, name):
        """Takes back the last patch that has not been taken back."""
        table = self.table_at(name)
        if not table.patches:
            raise NothingToUndo()
        for unit, number in table.patches[-1]:
            table.house.registry.stand(unit, number)
        table.patches = table.patches[:-1]

    def text(self, name):
        """The text of the bodies that stand."""
        return write_system(self.house_of(name).registry.current())

    def lines(self):
        """The list of the lines of all tables."""
        lines = []
        for name in self.tables():
            table = self.table_at(name)
            lines.append(f"table {name}")
            lines.extend(list(picture(table.house)))
            for stood in table.patches:
                lines.append(patch_line(stood))
        return lines


def patch_line(stood):
    """The line of a patch, with what stood ahead of it."""
    return " ".join(["patch", *[f"{unit} {number}" for unit, number in stood]])


def stood_in(registry, line):
    """What a line tells that stood ahead of a patch, or None if no patch of a registry has it."""
    words = line.split(" ")[1:]
    told = dict([(words[at], read_whole(words[at + 1])) for at in range(0, len(words) - 1, 2)])
    stood = tuple([(unit, told[unit]) for unit in registry.units if unit in told])
    if not stood or patch_line(stood) != line:
        return None
    for unit, number in stood:
        if number is None or number >= len(registry.editions(unit)):
            return None
    return stood


def table_in(lines):
    """The Table of which these are the lines behind its name, or None; raises InvalidLines for some that are none."""
    blocks = blocks_of(lines, ("patch",))
    patches = blocks[1:]
    if len(patches) > MOST_PATCHES or any([len(block) > 1 for block in patches]):
        return None
    house = go_on(blocks[0])
    stood = [stood_in(house.registry, block[0]) for block in patches]
    if None in stood:
        return None
    return Table(house, stood)


def desk_with(lines):
    """The Desk of which strings are the lines, or None; raises an error of the package for some that are none."""
    desk = Desk()
    blocks = blocks_of(lines, ("table",))
    if len(blocks) - 1 > MOST_TABLES:
        return None
    for block in blocks[1:]:
        name = block[0].split(" ")[-1]
        desk.check_new(name)
        table = table_in(block[1:])
        if table is None:
            return None
        desk.by_name[name] = table
    if desk.lines() != list(lines):
        return None
    return desk


def read_desk(lines):
    """A desk with these lines."""
    desk = None
    if are_strings(lines):
        try:
            desk = desk_with(lines)
        except PatchError:
            desk = None
    if desk is None:
        raise InvalidLines(lines)
    return desk
