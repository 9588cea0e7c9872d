"""Systems and their texts."""

from fairpatch.errors import InvalidSystem, InvalidText
from fairpatch.reading import Reader
from fairpatch.spaces import MOST_NAMES, is_sized_name
from fairpatch.trees import counts_in_units, is_tuple_of
from fairpatch.writing import system_lines


def counts_in_tree(value):
    """The list of the numbers of statements in the units of any value that is a system; else None."""
    if not is_tuple_of(value, 2) or not isinstance(value[0], tuple) or not 1 <= len(value[0]) <= MOST_NAMES:
        return None
    if not all([is_sized_name(name) for name in value[0]]):
        return None
    return counts_in_units(value[1])


def is_tree(value):
    """Whether any value is a system."""
    return counts_in_tree(value) is not None


def read_system(text):
    """The system of which a string is a text."""
    if not isinstance(text, str):
        raise InvalidText(text)
    return Reader(text).take_system()


def write_system(system):
    """The text of a system."""
    if not is_tree(system):
        raise InvalidSystem(system)
    return "\n".join(system_lines(system))
