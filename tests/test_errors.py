import inspect
import unittest

from fairpatch import errors

INVALID = (
    "InvalidNumber InvalidLots InvalidLot InvalidPayoff InvalidNames InvalidStore InvalidValues InvalidText "
    "InvalidSystem InvalidUnit InvalidBody InvalidSteps InvalidSummaries InvalidRow InvalidPick InvalidBlend "
    "InvalidCode InvalidLines InvalidAnswer InvalidPart InvalidEdition InvalidGame InvalidPlan InvalidRecord "
    "InvalidName"
).split()
FURTHER = {
    "ByZero": (),
    "NoSystem": ("line", "column"),
    "NotFair": ("reason", "unit", "word"),
    "Outside": ("payoff",),
    "NotBrought": ("payoff", "table"),
    "TooMany": ("count",),
    "TooRich": ("unit", "store", "count"),
    "TooGreat": ("unit", "store"),
    "NotLet": ("store", "pick", "payoff", "table"),
    "NotAsked": (),
    "NoThing": ("name",),
    "NothingToUndo": (),
}
ATTRIBUTES = {**{name: ("given",) for name in INVALID}, **FURTHER}


class ErrorTests(unittest.TestCase):
    def test_all_are_listed(self):
        found = {name for name, value in vars(errors).items() if inspect.isclass(value)}
        self.assertEqual(found, {"PatchError", *ATTRIBUTES})

    def test_heirs(self):
        self.assertEqual(errors.PatchError.__bases__, (ValueError,))
        for name in ATTRIBUTES:
            self.assertEqual(getattr(errors, name).__bases__, (errors.PatchError,), name)

    def test_attributes_are_what_was_passed(self):
        for name, attributes in ATTRIBUTES.items():
            values = {attribute: [attribute, {"a": (1,)}] for attribute in attributes}
            backwards = {attribute: values[attribute] for attribute in reversed(attributes)}
            made = [
                getattr(errors, name)(*values.values()),
                getattr(errors, name)(**values),
                getattr(errors, name)(**backwards),
            ]
            for count in range(len(attributes)):
                rest = {attribute: values[attribute] for attribute in attributes[count:]}
                made.append(getattr(errors, name)(*list(values.values())[:count], **rest))
            for error in made:
                self.assertEqual(sorted(vars(error)), sorted(attributes))
                for attribute in attributes:
                    self.assertIs(getattr(error, attribute), values[attribute])

    def test_raised_and_caught(self):
        for name, attributes in ATTRIBUTES.items():
            with self.assertRaises(errors.PatchError) as caught:
                raise getattr(errors, name)(*attributes)
            self.assertEqual(vars(caught.exception), {attribute: attribute for attribute in attributes})

    def test_wrong_number_of_values(self):
        for name, attributes in ATTRIBUTES.items():
            with self.assertRaises(TypeError):
                getattr(errors, name)(*attributes, 1)


if __name__ == "__main__":
    unittest.main()
