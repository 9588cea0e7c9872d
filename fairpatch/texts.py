"""Systems and their texts."""

from fairpatch.errors import InvalidSystem, InvalidText
from fairpatch.reading import Reader
from fairpatch.spaces import MOST_NAMES, is_sized_name
from fairpatch.trees import are_units, is_tuple_of
from fairpatch.writing import system_lines


def is_tree(value):
    """Whether any value is a system."""
    if not is_tuple_of(value, 2) or not isinstance(value[0], tuple) or not 1 <= len(value[0]) <= MOST_NAMES:
        return False
    return all([is_sized_name(name) for name in value[0]]) and are_units(value[1])


def read_system(text):
    """The system of which a string is a text."""
    if not isinstance(text, str):
        raise InvalidText(text)
    return Reader(text).take_system()


def write_system(system):
    """The text of a system."""
    if not is_tree(system):
        raise InvalidSystem(system)
    return "\n".join(system_lines(system))
