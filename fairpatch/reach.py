"""Reach: which statements of a body games come to, and in which stores they end, whatever is answered."""

from fairpatch.flow import Flow
from fairpatch.grounds import units_below
from fairpatch.spaces import Space


class Reach:
    """The ways through a body, statement by statement, if the units that it calls end where a dict tells."""

    def __init__(self, space, body, ends):
        self.space = space
        self.flow = Flow(space, body)
        self.ends = ends

    def onward(self, path, store):
        """The list of the tuples (point, store) to which a statement leads from a store."""
        onward = self.flow.passed(path, store)
        if onward is not None:
            return [onward]
        statement = self.flow.by_path[path]
        behind = self.flow.points_behind[path]
        if statement[0] == "draw":
            return [(behind, self.space.with_value(store, statement[1], value)) for value, _ in statement[2]]
        if statement[0] == "call":
            return [(behind, end) for end in self.ends[statement[1]][store]]
        return [(point, store) for point in self.flow.points_inside[path]]

    def come_to(self, stores):
        """A dict with all tuples (point, store) that are come to from the beginning in one of the stores as keys."""
        waiting = [(self.flow.beginning, store) for store in stores]
        found = {place: True for place in waiting}
        while waiting:
            point, store = waiting.pop()
            if point is not None:
                for place in self.onward(point, store):
                    if place not in found:
                        found[place] = True
                        waiting.append(place)
        return found

    def ends_from(self, store):
        """The ascending list of the stores in which a game from a store can be over."""
        found = self.come_to([store])
        return [end for end in self.space.stores() if (None, end) in found]


def ends_below(system, body):
    """A dict that has for each unit that a body calls, directly or not, the stores in which it can end, by stores."""
    space = Space(system[0])
    bodies = dict(system[1])
    ends = {}
    for unit in units_below(system, [body]):
        ends[unit] = ends_of(space, bodies[unit], ends)
    return ends


def ends_of(space, body, ends):
    """The list that has for each store the stores in which a body can end."""
    reach = Reach(space, body, ends)
    return [reach.ends_from(store) for store in space.stores()]
