"""The names, arguments and places of the interface."""

import importlib
import inspect
import unittest

FUNCTIONS = {
    "ratios": {"as_ratio": "value"},
    "lots": {"is_lot": "many value", "sure": "many outcome", "mean": "lot payoff", "mixed": "lots weights"},
    "hulls": {"corners": "lots", "shares_in": "lots lot"},
    "spaces": {"is_word": "value"},
    "texts": {"is_tree": "value", "read_system": "text", "write_system": "system"},
    "checks": {
        "check_system": "system", "is_fair": "value", "space_of": "system", "unit_names": "system",
        "body_of": "system unit", "statements": "system unit", "calls_of": "system unit", "with_body": "system unit body",
    },
    "plain": {"play": "system store answers steps"},
}
CLASSES = {
    ("ratios", "Ratio"): {
        "__init__": "self top bottom", "over": "self number", "below": "self number", "__add__": "self other",
        "__sub__": "self other", "__mul__": "self other", "__eq__": "self other", "__str__": "self",
    },
    ("spaces", "Space"): {
        "__init__": "self names", "__len__": "self", "__contains__": "self name", "__eq__": "self other", "stores": "self",
        "values_of": "self store", "store_of": "self values", "size_of": "self name", "value_of": "self store name",
        "with_value": "self store name value",
    },
}


def told(function):
    return " ".join(inspect.signature(function).parameters)


class InterfaceTests(unittest.TestCase):
    def test_functions(self):
        for module, functions in FUNCTIONS.items():
            found = importlib.import_module("fairpatch." + module)
            for name, arguments in functions.items():
                function = getattr(found, name)
                self.assertEqual(told(function), arguments)
                self.assertEqual(function.__module__, "fairpatch." + module)

    def test_classes(self):
        for (module, name), methods in CLASSES.items():
            found = getattr(importlib.import_module("fairpatch." + module), name)
            self.assertEqual(found.__module__, "fairpatch." + module)
            for method, arguments in methods.items():
                self.assertEqual(told(vars(found)[method]), arguments)


if __name__ == "__main__":
    unittest.main()
