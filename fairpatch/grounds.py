"""Grounds: a fair system, and what is worked out of it once: webs over summaries, outsets, summaries."""

from fairpatch.errors import TooRich
from fairpatch.hulls import corners
from fairpatch.outsets import Outset
from fairpatch.spaces import Space
from fairpatch.trees import walked
from fairpatch.webs import MOST_CORNERS, web_of


def corners_from(outset):
    """The ascending list of the corners of the lots of all picks of an outset."""
    return corners(list(outset.picks_by_lot()))


def words_called(body):
    """The list of the units that the statements of a body call."""
    return [statement[1] for _, statement in walked(body, ()) if statement[0] == "call"]


def units_below(system, bodies):
    """The list of the units, in order, that some of the bodies call, that such a unit calls, and so on."""
    words = []
    for body in bodies:
        words.extend(words_called(body))
    called = []
    # what a unit calls stands ahead of it
    for unit, body in reversed(system[1]):
        if unit in words:
            called.append(unit)
            words.extend(words_called(body))
    return list(reversed(called))


def place_store(place):
    """The store of a place."""
    if isinstance(place, tuple):
        return place[1]
    return place


class Site:
    """A body of a unit: its web over the summaries of a ground, and the outsets from its places."""

    def __init__(self, ground, unit, body):
        told = ground.told_below([body])
        self.ground = ground
        self.unit = unit
        self.web = web_of(ground.system, body, told)
        self.outsets = {}

    def outset_for(self, place, store):
        """The Outset from a place; a TooGreat there tells the store."""
        if (place, store) not in self.outsets:
            self.outsets[(place, store)] = Outset(self.web, place, self.unit, store)
        return self.outsets[(place, store)]

    def outset_at(self, place):
        """The Outset from a place."""
        return self.outset_for(place, place_store(place))

    def outset_from(self, store):
        """The Outset from the first place in a store."""
        return self.outset_for(self.web.first(store), store)


class Ground:
    """A fair system, with the summaries of its units and their Sites, as far as they have been asked for."""

    def __init__(self, system):
        self.system = system
        self.bodies = dict(system[1])
        self.never = Space(system[0]).never
        self.game_unit = system[1][-1][0]
        self.told = {}
        self.sites = {}

    def told_below(self, bodies):
        """A dict of the summaries of all units that bodies call, directly or not; raises what summary raises."""
        below = units_below(self.system, bodies)
        for unit in below:
            if unit not in self.told:
                self.told[unit] = self.summary_of(unit)
        return {unit: self.told[unit] for unit in below}

    def site_of(self, unit):
        """The Site of the published body of a unit."""
        if unit not in self.sites:
            self.sites[unit] = Site(self, unit, self.bodies[unit])
        return self.sites[unit]

    def new_site(self, unit, body):
        """The Site of another body of a unit; raises what summary raises for what it or the published one calls."""
        self.told_below([self.bodies[unit], body])
        return Site(self, unit, body)

    def summary_of(self, unit):
        """The list of the corners of a unit for each store."""
        site = self.site_of(unit)
        found = []
        for store in range(self.never):
            lots = corners_from(site.outset_from(store))
            if len(lots) > MOST_CORNERS:
                raise TooRich(unit, store, len(lots))
            found.append(lots)
        return found
