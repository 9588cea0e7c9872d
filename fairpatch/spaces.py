"""Words, and spaces of the stores in which games of a system can be."""

from fairpatch.errors import InvalidName, InvalidNames, InvalidStore, InvalidValues
from fairpatch.wholes import is_whole, is_whole_from

LETTERS = "abcdefghijklmnopqrstuvwxyz"
LONGEST_WORD = 8
LANGUAGE_WORDS = (
    "and", "by", "call", "choose", "draw", "else", "if", "name", "not", "or", "set", "unit", "while", "yes",
)
MOST_NAMES = 3
LEAST_SIZE = 2
GREATEST_SIZE = 6
MOST_STORES = 8


def is_word(value):
    """Whether any value is a word that the language does not keep for itself."""
    if not isinstance(value, str) or not 1 <= len(value) <= LONGEST_WORD:
        return False
    return all([letter in LETTERS for letter in value]) and value not in LANGUAGE_WORDS


def is_sized_name(value):
    """Whether any value is a tuple of a word and a size."""
    if not isinstance(value, tuple) or len(value) != 2:
        return False
    return is_word(value[0]) and is_whole_from(value[1], LEAST_SIZE, GREATEST_SIZE)


def stores_of_sizes(sizes):
    """How many stores names of these sizes have."""
    product = 1
    for size in sizes:
        product = product * size
    return product


def are_space_names(value):
    """Whether any value is a list of names with sizes, as a space has them."""
    if not isinstance(value, (list, tuple)) or not 1 <= len(value) <= MOST_NAMES:
        return False
    if not all([is_sized_name(pair) for pair in value]):
        return False
    words = [name for name, _ in value]
    return len(set(words)) == len(words) and stores_of_sizes([size for _, size in value]) <= MOST_STORES


class Space:
    """The stores of a few names with sizes."""

    def __init__(self, names):
        if not are_space_names(names):
            raise InvalidNames(names)
        self.names = tuple(names)
        self.never = stores_of_sizes([size for _, size in names])

    def __len__(self):
        return len(range(self.never))

    def __contains__(self, name):
        return name in [known for known, _ in self.names]

    def __eq__(self, other):
        return isinstance(other, Space) and self.names == other.names

    def stores(self):
        """The ascending list of all stores."""
        return list(range(self.never))

    def values_of(self, store):
        """A dict of the value that each name has in a store."""
        self.check_store(store)
        values = {}
        stride = self.never
        for name, size in self.names:
            stride = stride // size
            values[name] = store // stride % size
        return values

    def store_of(self, values):
        """The store in which the names have these values."""
        if not isinstance(values, dict) or len(values) != len(self.names):
            raise InvalidValues(values)
        store = 0
        for name, size in self.names:
            if name not in values or not is_whole_from(values[name], 0, size - 1):
                raise InvalidValues(values)
            store = store * size + values[name]
        return store

    def size_of(self, name):
        """The size of a name."""
        self.check_name(name)
        return dict(self.names)[name]

    def value_of(self, store, name):
        """The value that a name has in a store."""
        values = self.values_of(store)
        self.check_name(name)
        return values[name]

    def with_value(self, store, name, value):
        """The store in which the name has the value modulo its size, and all else is as in the store."""
        values = self.values_of(store)
        self.check_name(name)
        if not is_whole(value):
            raise InvalidValues(value)
        values[name] = value % self.size_of(name)
        return self.store_of(values)

    def check_store(self, store):
        """Raises InvalidStore unless this is a store of the space."""
        if not is_whole_from(store, 0, self.never - 1):
            raise InvalidStore(store)

    def check_name(self, name):
        """Raises InvalidName unless this is a name of the space."""
        if name not in self:
            raise InvalidName(name)
