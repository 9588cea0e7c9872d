"""The names, arguments and places of the interface."""

import importlib
import inspect
import unittest

FUNCTIONS = {
    "ratios": {"as_ratio": "value"},
    "lots": {"is_lot": "many value", "sure": "many outcome", "mean": "lot payoff", "mixed": "lots weights"},
    "hulls": {"corners": "lots", "shares_in": "lots lot"},
    "spaces": {"is_word": "value"},
    "texts": {"is_tree": "value", "read_system": "text", "write_system": "system"},
    "checks": {
        "check_system": "system", "is_fair": "value", "space_of": "system", "unit_names": "system",
        "body_of": "system unit", "statements": "system unit", "calls_of": "system unit", "with_body": "system unit body",
    },
    "plain": {"play": "system store answers steps"},
    "webs": {"web": "system unit summaries"},
    "picks": {"picks": "system unit store summaries", "lot_by": "system unit store summaries pick"},
    "forward": {
        "corners_of": "system unit store summaries", "summary": "system unit", "brought": "system unit store summaries lot",
        "table": "system unit store summaries payoff", "best": "system unit store summaries payoff",
        "is_brought": "system unit store summaries lot value", "is_against": "system unit store summaries lot value",
    },
    "stands": {
        "stands_for": "system unit body", "paper_for": "system unit body", "is_paper_for": "system unit body value",
        "stands_at": "web place other spot", "paper_at": "web place other spot", "is_paper_at": "web place other spot value",
    },
    "code": {"is_code": "value", "lines_of": "code", "read_code": "lines"},
    "running": {"settled": "space code at store", "question": "code at", "answered": "space code at store answer"},
    "compiler": {"compiled": "system unit body", "row_numbers": "system unit body"},
    "registry": {"read_registry": "lines"},
    "worth": {
        "worth": "house game payoff", "worth_paper": "house game payoff", "is_worth_paper": "house game payoff value",
        "is_bound": "house game payoff value",
    },
    "records": {"record_of": "house game", "is_record": "system value", "replay": "system record"},
    "pictures": {
        "audit": "house game", "is_audit": "system value", "reckoning": "house game payoff", "picture": "house", "go_on": "lines",
    },
    "odds": {
        "odds": "system store", "corner_picks": "system", "is_plan": "system store value", "lot_of_plan": "system store plan",
        "best_plan": "system store payoff", "is_best_plan": "system store payoff value", "loss": "system unit body payoff",
    },
    "improve": {
        "can_end": "system unit", "stores_at": "system unit", "steps": "system unit", "is_step": "system unit value",
        "course_of": "system unit", "is_course": "system unit value", "improved": "system unit", "improved_system": "system",
        "alike_editions": "registry unit",
    },
    "desk": {"read_desk": "lines"},
}
CLASSES = {
    ("ratios", "Ratio"): {
        "__init__": "self top bottom", "over": "self number", "below": "self number", "__add__": "self other",
        "__sub__": "self other", "__mul__": "self other", "__eq__": "self other", "__str__": "self",
    },
    ("spaces", "Space"): {
        "__init__": "self names", "__len__": "self", "__contains__": "self name", "__eq__": "self other", "stores": "self",
        "values_of": "self store", "store_of": "self values", "size_of": "self name", "value_of": "self store name",
        "with_value": "self store name value",
    },
    ("webs", "Web"): {
        "is_row": "self value", "first": "self store", "moves": "self row", "behind": "self row outcome",
        "met_from": "self place", "rows_from": "self store", "stays_from": "self store",
    },
    ("code", "Code"): {"__init__": "self rows", "__eq__": "self other"},
    ("machine", "Shelf"): {
        "__init__": "self system", "published": "self", "current": "self", "standing": "self unit", "stand": "self unit number",
        "editions": "self unit", "body_at": "self unit number", "code_at": "self unit number", "exchange": "self unit body",
    },
    ("machine", "Game"): {
        "__init__": "self shelf store", "asks": "self", "answer": "self label", "turn": "self part", "go": "self",
        "frames": "self", "used": "self", "move": "self number place", "lines": "self",
    },
    ("registry", "Registry"): {
        "__init__": "self system", "exchange": "self unit body", "paper": "self unit number", "lines": "self", "__eq__": "self other",
    },
    ("house", "House"): {
        "__init__": "self registry", "begin": "self store", "games": "self", "has": "self value", "step": "self game answer",
        "asks": "self game", "lines": "self game", "store_now": "self game", "start_of": "self game", "frames": "self game",
        "unused": "self", "move": "self game number place",
    },
    ("odds", "Guide"): {"__init__": "self system store plan", "label_for": "self answers"},
    ("desk", "Desk"): {
        "__init__": "self", "__len__": "self", "__contains__": "self name", "__eq__": "self other", "tables": "self",
        "house_of": "self name", "lay": "self name text", "drop": "self name", "rename": "self name new", "twin": "self name new",
        "patch": "self name text", "preview": "self name text", "undo": "self name", "text": "self name", "lines": "self",
    },
}


def told(function):
    return " ".join(inspect.signature(function).parameters)


class InterfaceTests(unittest.TestCase):
    def test_functions(self):
        for module, functions in FUNCTIONS.items():
            found = importlib.import_module("fairpatch." + module)
            for name, arguments in functions.items():
                function = getattr(found, name)
                self.assertEqual(told(function), arguments)
                self.assertEqual(function.__module__, "fairpatch." + module)

    def test_classes(self):
        for (module, name), methods in CLASSES.items():
            found = getattr(importlib.import_module("fairpatch." + module), name)
            self.assertEqual(found.__module__, "fairpatch." + module)
            for method, arguments in methods.items():
                self.assertEqual(told(vars(found)[method]), arguments)


if __name__ == "__main__":
    unittest.main()
