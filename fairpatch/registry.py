"""Registries: shelves that judge each new edition ahead of laying it there."""

from fairpatch.checks import is_fair
from fairpatch.errors import InvalidLines, NoSystem, NotLet, PatchError
from fairpatch.grounds import Ground
from fairpatch.machine import Shelf
from fairpatch.stands import paper_over
from fairpatch.texts import read_system
from fairpatch.wholes import read_whole
from fairpatch.writing import system_lines, unit_lines


class Exchange:
    """An exchange that has been judged: the number of the edition, and for a new one its paper and its Site."""

    def __init__(self, unit, number, body):
        self.unit = unit
        self.number = number
        self.body = body
        self.paper_found = None
        self.site = None


class Registry(Shelf):
    """The editions of the units of a system, all of them let by."""

    def __init__(self, system):
        Shelf.__init__(self, system)
        self.ground = Ground(system)
        self.edition_sites = {}
        self.papers_kept = {}

    def exchange(self, unit, body):
        """Makes an edition with this body stand, a new one if it is let by, and returns its number."""
        change = self.judged(unit, body)
        self.accept(change)
        return change.number

    def judged(self, unit, body):
        """The Exchange that makes a body stand; raises what exchange raises."""
        change = Exchange(unit, self.number_for(unit, body), body)
        if change.number < len(self.kept[unit]):
            return change
        change.site = self.ground.new_site(unit, body)
        change.paper_found = paper_over(change.site)
        if change.paper_found[0] == "no":
            _, store, pick, payoff, table = change.paper_found
            raise NotLet(store, pick, payoff, table)
        return change

    def accept(self, change):
        """Does an exchange that has been judged."""
        edition = (change.unit, change.number)
        if change.site is not None:
            self.papers_kept[edition] = change.paper_found
            self.edition_sites[edition] = change.site
        self.put(change.unit, change.number, change.body)

    def paper(self, unit, number):
        """The paper that an edition keeps, or None for the published one."""
        self.edition_at(unit, number)
        if number == 0:
            return None
        word, papers = self.papers_kept[(unit, number)]
        # blends are lists, and those that are kept stay here
        return word, [[(lot, list(blend)) for lot, blend in part] for part in papers]

    def site_at(self, unit, number):
        """The Site of an edition over the summaries of published units; raises what their summary raises."""
        if number == 0:
            return self.ground.site_of(unit)
        return self.edition_sites[(unit, number)]

    def flow_at(self, unit, number):
        """The Flow of an edition."""
        return self.edition_at(unit, number).flow_in(self.space)

    def lines(self):
        """The list of the lines of the registry."""
        bodies = {unit: [body for _, body in self.editions(unit)] for unit in self.units}
        return registry_lines(self.system, bodies, self.standing_now)

    def __eq__(self, other):
        return isinstance(other, Registry) and self.lines() == other.lines()


def registry_lines(system, bodies, standing):
    """The list of the lines of a registry, with the bodies of all editions and the numbers that stand, by units."""
    lines = list(system_lines(system))
    for unit, _ in system[1]:
        for number, body in enumerate(bodies[unit]):
            if number > 0:
                lines.append(f"edition {number}")
                lines.extend(unit_lines(unit, body))
    for unit, _ in system[1]:
        lines.append(f"stand {unit} {standing[unit]}")
    return lines


def are_strings(value):
    """Whether any value is a list of strings."""
    return isinstance(value, (list, tuple)) and all([isinstance(line, str) for line in value])


def blocks_of(lines, words):
    """The list of the lists of lines of which each but the first begins at a line with one of the words ahead."""
    blocks = [[]]
    for line in lines:
        if line.split(" ")[0] in words:
            blocks.append([])
        blocks[-1].append(line)
    return blocks


def system_in(lines):
    """The system of which strings are the lines of a text, or None."""
    try:
        return read_system("\n".join(lines))
    except NoSystem:
        return None


class Told:
    """What lines tell of a registry, whether it is right or not."""

    def __init__(self, lines):
        blocks = blocks_of(lines, ("edition", "stand"))
        self.system = system_in(blocks[0])
        self.bodies = {}
        self.standing_told = {}
        if is_fair(self.system):
            self.add_editions(blocks[1:])

    def add_editions(self, blocks):
        """Adds the editions of all units and those that stand."""
        self.bodies = {unit: [body] for unit, body in self.system[1]}
        for block in blocks:
            if block[0].startswith("stand"):
                self.add_standing(block[0].split(" "))
            else:
                self.add_edition(block[1:])

    def add_standing(self, words):
        """Adds what a line tells of an edition that stands."""
        if len(words) == 3 and read_whole(words[2]) is not None:
            self.standing_told[words[1]] = read_whole(words[2])

    def add_edition(self, lines):
        """Adds the body in the lines of a unit, if there is one."""
        heads = [f"name {name} {size}" for name, size in self.system[0]]
        read = system_in([*heads, *lines])
        if read is not None and len(read[1]) == 1 and read[1][0][0] in self.bodies:
            unit, body = read[1][0]
            self.bodies[unit].append(body)

    def fits(self, lines):
        """Whether the lines are written as those of a registry with just what they tell."""
        if not self.bodies or sorted(list(self.standing_told)) != sorted(list(self.bodies)):
            return False
        return registry_lines(self.system, self.bodies, self.standing_told) == list(lines)

    def registry_made(self):
        """The Registry that is told, each of its editions judged, or None if one of them cannot be there."""
        registry = Registry(self.system)
        try:
            for unit, bodies in self.bodies.items():
                for number, body in enumerate(bodies):
                    if number > 0 and registry.exchange(unit, body) != number:
                        return None
            for unit, number in self.standing_told.items():
                registry.stand(unit, number)
        except PatchError:
            return None
        return registry


def read_registry(lines):
    """The registry with these lines."""
    registry = None
    if are_strings(lines):
        told = Told(lines)
        if told.fits(lines):
            registry = told.registry_made()
    if registry is None:
        raise InvalidLines(lines)
    return registry
