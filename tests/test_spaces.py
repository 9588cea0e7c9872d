import unittest
from itertools import permutations, product
from random import Random

from fairpatch.errors import InvalidName, InvalidNames, InvalidStore, InvalidValues
from fairpatch.ratios import Ratio
from fairpatch.spaces import Space, is_word
from tests.samples import any_values

LANGUAGE = "and by call choose draw else if name not or set unit while yes".split()
ALL_SIZES = [sizes for count in (1, 2, 3) for sizes in product(range(2, 7), repeat=count)]
FEW_SIZES = [sizes for sizes in ALL_SIZES if len(sizes) == 1 or sizes[0] * sizes[1] * (sizes + (1,))[2] <= 8]
NO_INTEGERS = [None, True, False, "0", "", [0], (0,), {}, Ratio(0), Ratio(1)]


def spaces():
    return [Space([(name, size) for name, size in zip(("hp", "gold", "a"), sizes)]) for sizes in FEW_SIZES]


class WordTests(unittest.TestCase):
    def test_words(self):
        for word in ["a", "z", "hp", "drawn", "abcdefgh", "zzzzzzzz", "num", "less", "same", "never", "names", "i"]:
            self.assertIs(is_word(word), True)
        self.assertIs(is_word(value="gold"), True)

    def test_words_of_the_language(self):
        for word in LANGUAGE:
            self.assertIs(is_word(word), False)
            self.assertIs(is_word(word + "s"), True)
            self.assertIs(is_word(word.upper()), False)

    def test_no_words(self):
        for value in ["", "abcdefghi", "A", "aB", "a1", "1", "a b", " a", "a ", "a\n", "\ta", "a-b", "a_b", "\u00e4"]:
            self.assertIs(is_word(value), False, value)
        for value in any_values():
            self.assertIs(is_word(value), value == "a", value)
        self.assertIs(is_word(["a"]), False)


class SpaceTests(unittest.TestCase):
    def refused(self, error, given, call, *arguments):
        with self.assertRaises(error) as caught:
            call(*arguments)
        self.assertIs(caught.exception.given, given)

    def test_attributes(self):
        space = Space([("hp", 3), ("gold", 2)])
        self.assertEqual(space.names, (("hp", 3), ("gold", 2)))
        self.assertEqual((space.never, len(space)), (6, 6))
        self.assertEqual(Space(names=(("a", 6),)).names, (("a", 6),))

    def test_names_are_kept_as_a_tuple(self):
        names = [("hp", 3)]
        space = Space(names)
        names.append(("gold", 2))
        self.assertEqual(space.names, (("hp", 3),))
        self.assertEqual(space.stores(), [0, 1, 2])

    def test_wrong_names(self):
        for names in [
            None, 1, "a", "ab", (), [], {}, {"a": 2}, ["a"], [("a",)], [("a", 2, 3)], [["a", 2]], [("a", 1)], [("a", 7)],
            [("a", 0)], [("a", -2)], [("a", True)], [("a", "2")], [("a", None)], [("a", Ratio(2))], [("A", 2)],
            [("set", 2)], [("", 2)], [("abcdefghi", 2)], [(1, 2)], [("a", 2), ("a", 2)], [("a", 2), ("b", 2), ("a", 2)],
            [("a", 3), ("b", 3)], [("a", 2), ("b", 5)], [("a", 2), ("b", 2), ("c", 3)],
            [("a", 2), ("b", 2), ("c", 2), ("d", 2)], ("a", 2), [("a", 2), None],
        ]:
            self.refused(InvalidNames, names, Space, names)

    def test_all_sizes(self):
        for sizes in ALL_SIZES:
            names = [(name, size) for name, size in zip("abc", sizes)]
            if sizes in FEW_SIZES:
                self.assertEqual(Space(names).names, tuple(names))
            else:
                self.refused(InvalidNames, names, Space, names)

    def test_contains(self):
        space = Space([("hp", 3), ("gold", 2)])
        self.assertIs("hp" in space, True)
        self.assertIs("gold" in space, True)
        for value in [*any_values(), "h", "g", "hpgold", ("hp", 3), ["hp"], "HP"]:
            self.assertIs(value in space, False)

    def test_equal(self):
        space = Space([("hp", 3), ("gold", 2)])
        self.assertTrue(space == Space((("hp", 3), ("gold", 2))))
        self.assertFalse(space != Space((("hp", 3), ("gold", 2))))
        for other in [Space([("gold", 2), ("hp", 3)]), Space([("hp", 3)]), Space([("hp", 2), ("gold", 3)]),
                      (("hp", 3), ("gold", 2)), [("hp", 3), ("gold", 2)], 6, None, *any_values()]:
            self.assertIs(space == other, False)
            self.assertIs(other == space, False)

    def test_stores_and_values(self):
        for space in spaces():
            names = [name for name, _ in space.names]
            lists = list(product(*[range(size) for _, size in space.names]))
            self.assertEqual((len(space), space.never), (len(lists), len(lists)))
            self.assertEqual(space.stores(), list(range(len(lists))))
            for store, row in enumerate(lists):
                values = dict(zip(names, row))
                self.assertEqual(list(space.values_of(store).items()), list(values.items()))
                for order in permutations(names):
                    self.assertEqual(space.store_of({name: values[name] for name in order}), store)
                for name in names:
                    self.assertEqual(space.value_of(store, name), values[name])
            for name, size in space.names:
                self.assertEqual(space.size_of(name), size)

    def test_with_value(self):
        for space in spaces():
            for store, (name, size) in product(space.stores(), space.names):
                for value in [*range(-13, 14), 10 ** 60, -10 ** 60 - 1]:
                    values = space.values_of(store)
                    values[name] = value % size
                    self.assertEqual(space.with_value(store, name, value), space.store_of(values))

    def test_what_follows(self):
        random = Random(14)
        for space in spaces():
            names = [name for name, _ in space.names]
            for store, other in product(space.stores(), repeat=2):
                at = store
                for name in random.sample(names, len(names)):
                    at = space.with_value(at, name, space.value_of(other, name))
                self.assertEqual(at, other)
            for one, other in permutations(names, 2):
                self.assertEqual(space.with_value(space.with_value(0, one, 1), other, 5),
                                 space.with_value(space.with_value(0, other, 5), one, 1))
            self.assertEqual(space.with_value(space.with_value(1, "hp", 1), "hp", 0), space.with_value(1, "hp", 0))

    def test_by_name(self):
        space = Space([("hp", 3), ("gold", 2)])
        self.assertEqual(space.values_of(store=3), {"hp": 1, "gold": 1})
        self.assertEqual(space.store_of(values={"gold": 0, "hp": 2}), 4)
        self.assertEqual(space.size_of(name="gold"), 2)
        self.assertEqual(space.value_of(name="hp", store=5), 2)
        self.assertEqual(space.with_value(value=-2, name="gold", store=3), 2)

    def test_new_answers(self):
        space = Space([("hp", 3), ("gold", 2)])
        space.stores().clear()
        space.values_of(3).clear()
        self.assertEqual(space.stores(), [0, 1, 2, 3, 4, 5])
        values = space.values_of(3)
        self.assertEqual(values, {"hp": 1, "gold": 1})
        space.store_of(values)
        self.assertEqual(values, {"hp": 1, "gold": 1})

    def test_wrong_stores(self):
        space = Space([("hp", 3), ("gold", 2)])
        for store in [*NO_INTEGERS, -1, 6, 7, 10 ** 60]:
            self.refused(InvalidStore, store, space.values_of, store)
            self.refused(InvalidStore, store, space.value_of, store, "hp")
            self.refused(InvalidStore, store, space.value_of, store, "wrong")
            self.refused(InvalidStore, store, space.with_value, store, "hp", 1)
            self.refused(InvalidStore, store, space.with_value, store, "wrong", None)

    def test_wrong_names_of_a_space(self):
        space = Space([("hp", 3), ("gold", 2)])
        for name in [None, 1, True, "", "h", "HP", "silver", ["hp"], ("hp", 3), {}, space]:
            self.refused(InvalidName, name, space.size_of, name)
            self.refused(InvalidName, name, space.value_of, 0, name)
            self.refused(InvalidName, name, space.with_value, 0, name, 1)
            self.refused(InvalidName, name, space.with_value, 0, name, "wrong")

    def test_wrong_values(self):
        space = Space([("hp", 3), ("gold", 2)])
        for value in NO_INTEGERS:
            self.refused(InvalidValues, value, space.with_value, 0, "hp", value)
        for values in [
            None, 1, "hp", [], {}, {"hp": 0}, {"gold": 0}, {"hp": 0, "gold": 0, "a": 0}, {"hp": 0, "a": 0},
            {"hp": 3, "gold": 0}, {"hp": 0, "gold": 2}, {"hp": -1, "gold": 0}, {"hp": True, "gold": 0},
            {"hp": 0, "gold": False}, {"hp": None, "gold": 0}, {"hp": Ratio(1), "gold": 0}, [("hp", 0), ("gold", 0)],
            (("hp", 0), ("gold", 0)), {"hp": [0], "gold": 0},
        ]:
            self.refused(InvalidValues, values, space.store_of, values)


if __name__ == "__main__":
    unittest.main()
