"""Ways through a body: what is passed, and the place that is come to."""

from fairpatch.meaning import holds, number_of
from fairpatch.trees import bodies_in
from fairpatch.wholes import is_whole, is_whole_from


def place_order(place):
    """A key that orders places: outcomes ahead of rows, both ascending."""
    if isinstance(place, tuple):
        return 1, place
    return 0, place


class Flow:
    """The statements of a body by their paths, and where ways go on behind them and within them.

    A point of a body is a path at which a way goes on, or None at the end of the body. In a store
    each point leads to a place: to the first row that is come to, or to the store at the end.
    """

    def __init__(self, space, body):
        self.space = space
        self.by_path = {}
        self.points_behind = {}
        self.points_inside = {}
        self.in_stores = [space.values_of(store) for store in space.stores()]
        self.passed_to = {}
        self.beginning = self.lay(body, (), None)

    def lay(self, body, path, point_behind):
        """Lays out a body and the bodies in it, and returns the point at which it begins."""
        point = point_behind
        for at in range(len(body) - 1, -1, -1):
            own = (*path, at)
            statement = body[at]
            # a while is come to again behind its body
            behind_bodies = own if statement[0] == "while" else point
            self.by_path[own] = statement
            self.points_behind[own] = point
            self.points_inside[own] = [
                self.lay(inner, (*own, index), behind_bodies) for index, inner in enumerate(bodies_in(statement))]
            point = own
        return point

    def passed(self, path, store):
        """The tuple (point, store) to which a statement is passed in a store, or None if a row stands there."""
        if (path, store) not in self.passed_to:
            self.passed_to[(path, store)] = self.pass_on(path, store)
        return self.passed_to[(path, store)]

    def pass_on(self, path, store):
        """What `passed` returns, worked out."""
        statement = self.by_path[path]
        kind = statement[0]
        told = self.in_stores[store]
        if kind == "set":
            changed = self.space.with_value(store, statement[1], number_of(statement[2], told))
            return self.points_behind[path], changed
        if kind == "if":
            return self.points_inside[path][0 if holds(statement[1], told) else 1], store
        if kind == "while" and not holds(statement[1], told):
            return self.points_behind[path], store
        return None

    def place_from(self, point, store):
        """The place to which a point leads in a store."""
        while point is not None:
            onward = self.passed(point, store)
            if onward is None:
                return point, store
            point, store = onward
        return store

    def place_at_first(self, store):
        """The place to which the beginning of the body leads."""
        return self.place_from(self.beginning, store)

    def place_behind(self, path, store):
        """The place to which a store leads behind a statement."""
        return self.place_from(self.points_behind[path], store)

    def places_inside(self, path, store):
        """The list of the places to which the bodies of a statement lead from a store."""
        return [self.place_from(point, store) for point in self.points_inside[path]]

    def is_store(self, value):
        """Whether any value is a store."""
        return is_whole_from(value, 0, self.space.never - 1)

    def is_place_row(self, value):
        """Whether any value is a row."""
        if not isinstance(value, tuple) or len(value) != 2 or not self.is_store(value[1]):
            return False
        path = value[0]
        if not isinstance(path, tuple) or not all([is_whole(index) for index in path]):
            return False
        return path in self.by_path and self.passed(path, value[1]) is None
