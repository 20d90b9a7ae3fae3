"""The names of the interface and their arguments, for what has landed."""

import importlib
import inspect
import unittest

FUNCTIONS = {
    "tools": {
        "is_tool": "m value", "tool_error": "m value", "target_of": "m tool place", "push_place": "m tool turn place",
        "push_places": "m tool turn places", "after_plan": "m tools plan places",
    },
    "arcs": {
        "spread_of": "m places", "brought_into": "m tool begin length", "width_of": "m tools length",
        "lengths_of": "m tools goal",
    },
    "plans": {
        "fewest_pushes": "m tools places goal", "find_plan": "m tools places goal",
        "plan_holds": "m tools places goal value", "fewest_holds": "m tools places goal value",
        "find_certificate": "m tools places goal", "certificate_holds": "m tools places goal value",
    },
    "maps": {
        "period_of": "m tool", "common_period": "m tools", "turned_tool": "m tool turn", "mirrored_tool": "m tool",
        "table_of": "m tool", "tool_of": "m value", "combined": "m first turn second", "plan_tool": "m tools plan",
    },
    "costs": {
        "least_cost": "m tools costs places goal", "find_cheap_plan": "m tools costs places goal",
        "cost_widths": "m tools costs goal most",
    },
    "texts": {"tool_text": "tool", "plan_text": "plan", "parse_tool": "m text", "parse_plan": "text"},
}


class Interface(unittest.TestCase):
    def test_functions(self):
        for module, functions in FUNCTIONS.items():
            found = importlib.import_module("blindpush." + module)
            for name, names in functions.items():
                function = getattr(found, name)
                self.assertEqual(function.__module__, "blindpush." + module)
                self.assertEqual(list(inspect.signature(function).parameters), names.split(), name)


if __name__ == "__main__":
    unittest.main()
