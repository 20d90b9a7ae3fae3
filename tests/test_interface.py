"""The names of the interface, their arguments, and where they are defined."""

import importlib
import inspect
import unittest

from blindpush.benches import Bench, CostBench, common_places
from blindpush.purses import Purse
from blindpush.shells import Shell
from tests.circles import T

FUNCTIONS = {
    "tools": {
        "is_tool": "m value", "tool_error": "m value", "target_of": "m tool place", "push_place": "m tool turn place",
        "push_places": "m tool turn places", "after_plan": "m tools plan places",
    },
    "arcs": {
        "spread_of": "m places", "brought_into": "m tool begin length", "width_of": "m tools length",
        "lengths_of": "m tools goal",
    },
    "plans": {
        "fewest_pushes": "m tools places goal", "find_plan": "m tools places goal",
        "plan_holds": "m tools places goal value", "fewest_holds": "m tools places goal value",
        "find_certificate": "m tools places goal", "certificate_holds": "m tools places goal value",
    },
    "maps": {
        "period_of": "m tool", "common_period": "m tools", "turned_tool": "m tool turn", "mirrored_tool": "m tool",
        "table_of": "m tool", "tool_of": "m value", "combined": "m first turn second", "plan_tool": "m tools plan",
    },
    "costs": {
        "least_cost": "m tools costs places goal", "find_cheap_plan": "m tools costs places goal",
        "cost_widths": "m tools costs goal most",
    },
    "counting": {"count_plans": "m tools pushes", "count_images": "m tools pushes"},
    "benches": {"common_places": "*benches least=0"},
    "texts": {"tool_text": "tool", "plan_text": "plan", "parse_tool": "m text", "parse_plan": "text"},
}

# The methods that each class has in its own body; a parameter behind a star is passed by keyword.
CLASSES = {
    Bench: {
        "__init__": "self m tools", "push": "self turn index", "learn": "self begin length", "undo": "self",
        "attempt": "self edits * watch=None", "possible": "self * version=None", "spread": "self * version=None",
        "remaining": "self goal * version=None", "plan": "self goal", "edits": "self", "aim_at": "self value",
        "walk": "self goal", "__len__": "self", "__str__": "self", "__eq__": "self other",
    },
    CostBench: {"__init__": "self m tools costs budget"},
    Purse: {"__init__": "self budget", "pay": "self cost", "give_back": "self cost"},
    Shell: {"__init__": "self bench", "execute": "self line"},
}
ATTRIBUTES = {Bench: ("goal", "needed", "is_known"), Purse: ("budget", "left")}


def parameters_of(function):
    """The parameters of a function, with a star before those that are passed by keyword."""
    words = []
    for parameter in inspect.signature(function).parameters.values():
        starred = any(word.startswith("*") for word in words)
        if parameter.kind == parameter.KEYWORD_ONLY and not starred:
            words.append("*")
        words.append(str(parameter))
    return words


class Interface(unittest.TestCase):
    def test_functions(self):
        for module, functions in FUNCTIONS.items():
            found = importlib.import_module("blindpush." + module)
            for name, names in functions.items():
                function = getattr(found, name)
                self.assertEqual(function.__module__, "blindpush." + module)
                self.assertEqual(parameters_of(function), names.split(), name)

    def test_methods_stand_in_the_class_itself(self):
        for found, methods in CLASSES.items():
            for name, names in methods.items():
                self.assertIn(name, vars(found), found)
                self.assertTrue(inspect.isfunction(vars(found)[name]), name)
                self.assertEqual(parameters_of(vars(found)[name]), names.split(), name)

    def test_classes_stand_in_their_modules(self):
        for found, module in ((Bench, "benches"), (CostBench, "benches"), (Purse, "purses"), (Shell, "shells")):
            self.assertEqual(found.__module__, "blindpush." + module)
        self.assertTrue(issubclass(CostBench, Bench) and issubclass(CostBench, Purse))

    def test_class_values_and_methods(self):
        self.assertIn("LIMIT", vars(Bench))
        self.assertIsInstance(vars(Bench)["arc"], staticmethod)
        self.assertIsInstance(vars(Bench)["read"], classmethod)
        self.assertEqual(parameters_of(Bench.arc), ["m", "begin", "length"])
        self.assertEqual(parameters_of(Bench.read), ["text"])

    def test_attributes(self):
        for found, names in ATTRIBUTES.items():
            for name in names:
                self.assertIn(name, vars(found))
        bench = CostBench(12, (T,), (3,), 5)
        values = [getattr(bench, name) for names in ATTRIBUTES.values() for name in names]
        self.assertEqual(values, [1, 3, False, 5, 5])

    def test_walk_yields(self):
        self.assertTrue(inspect.isgeneratorfunction(Bench.walk))

    def test_least_is_passed_by_keyword(self):
        bench = Bench(12, (T,))
        self.assertEqual(common_places(bench, least=10), (10, 11))
        self.assertRaises(TypeError, common_places, bench, most=10)


if __name__ == "__main__":
    unittest.main()
