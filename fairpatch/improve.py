"""Improving: what can be left out of bodies, or told more shortly, without changing what they bring."""

from fairpatch.checks import body_of, check_system, names_in
from fairpatch.grounds import corners_from
from fairpatch.meaning import holds, number_of
from fairpatch.reach import Reach, ends_below, ends_of
from fairpatch.spaces import Space
from fairpatch.trees import MOST_LOOPS, MOST_STATEMENTS, bodies_in, count_in, walked
from fairpatch.wholes import is_whole


def can_end(system, unit):
    """The list that has for each store the stores in which a game of a unit can be over."""
    body = body_of(system, unit)
    return ends_of(Space(system[0]), body, ends_below(system, body))


def stores_at(system, unit):
    """The list of the tuples (path, stores) of all statements of a unit, with the stores in which each is come to."""
    body = body_of(system, unit)
    reach = Reach(Space(system[0]), body, ends_below(system, body))
    return [(path, stores) for path, _, stores in visited(reach, body)]


def visited(reach, body):
    """The list of the tuples (path, statement, stores) of a body."""
    stores = reach.space.stores()
    found = reach.come_to(stores)
    rows = []
    for path, statement in walked(body, ()):
        rows.append((path, statement, [store for store in stores if (path, store) in found]))
    return rows


def with_statements(body, path, others):
    """A body in which other statements take the place of the one with a path."""
    at = path[0]
    if len(path) == 1:
        return (*body[:at], *others, *body[at + 1:])
    inner = with_statements(bodies_in(body[at])[path[1]], path[2:], others)
    return (*body[:at], with_inner(body[at], path[1], inner), *body[at + 1:])


def with_inner(statement, index, inner):
    """A statement in which one of its bodies is another one."""
    bodies = [inner if at == index else body for at, body in enumerate(bodies_in(statement))]
    if statement[0] == "choose":
        return ("choose", tuple([(pair[0], body) for pair, body in zip(statement[1], bodies)]))
    return (*statement[:2], *bodies)


def changes(space, statement, stores, behind):
    """The list of the tuples (kind, statements) of what can take the place of a statement.

    `stores` are those in which it is come to, `behind` is the statement directly behind it, or None.
    """
    if not stores:
        return [("dead", ())]
    kind = statement[0]
    found = []
    if kind == "set":
        found.extend(set_changes(space, statement, stores))
    if kind in ("set", "draw") and is_lost(statement, behind):
        found.append(("lost", ()))
    if kind in ("if", "while"):
        held = [holds(statement[1], space.values_of(store)) for store in stores]
        found.extend(while_changes(statement, held) if kind == "while" else if_changes(statement, held))
    if kind in ("if", "choose"):
        bodies = bodies_in(statement)
        if all([body == bodies[0] for body in bodies]):
            found.append(("same", bodies[0]))
    return found


def set_changes(space, statement, stores):
    """The changes of a set that hang on what it does in its stores."""
    name, expression = statement[1:]
    size = space.size_of(name)
    given = [number_of(expression, space.values_of(store)) % size for store in stores]
    found = []
    if expression[0] != "num" and all([value == given[0] for value in given]):
        found.append(("folded", (("set", name, ("num", given[0])),)))
    if given == [space.value_of(store, name) for store in stores]:
        found.append(("idle", ()))
    return found


def is_lost(statement, behind):
    """Whether the statement directly behind a set or a draw gives the name another value, whatever it is now."""
    if behind is None or behind[0] not in ("set", "draw") or behind[1] != statement[1]:
        return False
    if behind[0] == "draw":
        return statement[0] == "draw"
    return statement[1] not in names_in(behind[2])


def while_changes(statement, held):
    """The changes of a while whose condition has held, or not, in its stores."""
    if not any(held):
        return [("past", ())]
    if all(held) and statement[1] != ("yes",):
        return [("folded", (("while", ("yes",), statement[2]),))]
    return []


def if_changes(statement, held):
    """The changes of an if whose condition has held, or not, in its stores."""
    if all(held):
        return [("told", statement[2])]
    if not any(held):
        return [("told", statement[3])]
    return []


def steps_in(space, body, ends):
    """The list of the steps of a body whose called units end where a dict tells."""
    reach = Reach(space, body, ends)
    found = []
    for path, statement, stores in visited(reach, body):
        behind = reach.flow.by_path.get((*path[:-1], path[-1] + 1))
        for kind, others in sorted(changes(space, statement, stores, behind), key=lambda change: change[0]):
            found.append((path, kind, with_statements(body, path, others)))
    return found


def steps(system, unit):
    """The list of all steps of a unit, ascending by paths and then by kinds."""
    body = body_of(system, unit)
    return steps_in(Space(system[0]), body, ends_below(system, body))


def has_step_form(value):
    """Whether any value is a tuple of a path, a string and a body."""
    if not isinstance(value, tuple) or len(value) != 3 or not isinstance(value[0], tuple):
        return False
    if not all([is_whole(index) for index in value[0]]) or not isinstance(value[1], str):
        return False
    # True equals 1, but stands in no body
    return count_in(value[2], MOST_STATEMENTS, MOST_LOOPS) is not None


def is_step(system, unit, value):
    """Whether any value is a step of a unit."""
    found = steps(system, unit)
    return has_step_form(value) and value in found


def is_course(system, unit, value):
    """Whether any value is a course of a unit."""
    body = body_of(system, unit)
    if not isinstance(value, (list, tuple)):
        return False
    space = Space(system[0])
    # a step calls nothing that was not called ahead of it
    ends = ends_below(system, body)
    for step in value:
        if not has_step_form(step) or step not in steps_in(space, body, ends):
            return False
        body = step[2]
    return True


def course_in(space, body, ends):
    """The course of a body that always takes the first step."""
    course = []
    found = steps_in(space, body, ends)
    while found:
        course.append(found[0])
        found = steps_in(space, found[0][2], ends)
    return course


def course_of(system, unit):
    """The course of a unit that always takes the first step."""
    body = body_of(system, unit)
    return course_in(Space(system[0]), body, ends_below(system, body))


def improved_body(system, body):
    """The body behind the course of a body that always takes the first step."""
    course = course_in(Space(system[0]), body, ends_below(system, body))
    if course:
        return course[-1][2]
    return body


def improved(system, unit):
    """The improved body of a unit."""
    return improved_body(system, body_of(system, unit))


def improved_system(system):
    """The system with the improved body of each unit."""
    check_system(system)
    names, units = system
    return names, tuple([(unit, improved_body(system, body)) for unit, body in units])


def alike_editions(registry, unit):
    """The numbers of all editions of a unit, in lists of those that bring the same lots from each store."""
    editions = registry.editions(unit)
    registry.ground.told_below([body for _, body in editions])
    parts = []
    told = []
    for number, _ in editions:
        site = registry.site_at(unit, number)
        brought = [corners_from(site.outset_from(store)) for store in range(site.web.never)]
        if brought in told:
            parts[told.index(brought)].append(number)
        else:
            told.append(brought)
            parts.append([number])
    return parts
