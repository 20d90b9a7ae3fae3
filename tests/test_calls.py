"""For plans, maps, costs and texts: no argument changes, and equal calls have equal results [3]."""

import copy
import unittest

from blindpush.costs import cost_widths, find_cheap_plan, least_cost
from blindpush.maps import (
    combined, common_period, mirrored_tool, period_of, plan_tool, table_of, tool_of, turned_tool,
)
from blindpush.plans import (
    certificate_holds, fewest_holds, fewest_pushes, find_certificate, find_plan, plan_holds,
)
from blindpush.texts import parse_plan, parse_tool, plan_text, tool_text
from tests.circles import ANY_VALUES, LARGE, LONG, P, T

ALL = tuple(range(12))
ALL_60 = tuple(range(60))
PLAN = ((3, 0), (-4, 1), (LONG, 0))

CALLS = [
    (function, m, tools, places, goal)
    for function in (fewest_pushes, find_plan, find_certificate)
    for m, tools in ((12, (T,)), (12, (P,)), (12, (P, T)), (60, (LARGE,)))
    for places in (tuple(range(m)), (0, m - 1), (2, 3, 5))
    for goal in (1, 2, 3, 9)
] + [
    (function, 12, (T, P, T), (5, 2, 5), places, goal)
    for function in (least_cost, find_cheap_plan)
    for places in (ALL, (0, 11), (4,))
    for goal in (1, 5, 9)
] + [
    (find_cheap_plan, 60, (LARGE, LARGE), (3, 3), ALL_60, 1), (cost_widths, 12, (T, P), (5, 2), 1, 50),
    (period_of, 12, P), (common_period, 12, (P, T)), (turned_tool, 60, LARGE, -LONG), (mirrored_tool, 60, LARGE),
    (table_of, 60, LARGE), (combined, 12, T, 3, P), (plan_tool, 12, (T, P), PLAN), (tool_of, 6, (3, 0, 0, 0, 3, 3)),
    (tool_text, LARGE), (plan_text, PLAN), (plan_text, ()), (parse_tool, 12, "0>2 5>6 9>10"), (parse_plan, "0:0 -3:1"),
]

# The functions that accept any value as their last argument, with their other arguments.
ANY_VALUE_CALLS = (
    (plan_holds, 12, (T, P), ALL, 9), (fewest_holds, 12, (T, P), ALL, 1), (certificate_holds, 12, (P,), ALL, 3),
    (tool_of, 2), (tool_of, 12), (parse_tool, 12), (parse_plan,),
)
FOUND = find_plan(12, (T, P), ALL, 1)
VALUES = ANY_VALUES + (
    PLAN, list(PLAN), [list(push) for push in PLAN], ((3, 0), [-4, 1]), (FOUND, (1, 5, 9)), [FOUND, [1, 5, 9]],
    (FOUND, [1, 5, 9]), (FOUND, (True, 5, 9)), ("plan", FOUND), ("plan", list(FOUND)), ["plan", FOUND], ("never", 8),
    ("never", [8]), ["never", 8], {"never": 8}, (1, 1), [1, 1], (1, True), [True, True], list(range(12)), ALL,
    "0>2 5>6 9>10", "0>2 5>2", "0:0 -3:1", "none", ["0:0"], {"text": ["0:0"]}, [[[[[[[[[[[[[[[[[[[[]]]]]]]]]]]]]]]]]]]],
)


def outcome(function, *args):
    """What a call returns or raises."""
    try:
        return (None, function(*args))
    except (ValueError, LookupError) as error:
        return (error.__class__.__name__, vars(error))


class Calls(unittest.TestCase):
    def check(self, function, *args):
        before = copy.deepcopy(args)
        first = outcome(function, *args)
        # The results of the call with the copies are shown as well, so that True and 1 are told apart.
        self.assertEqual(repr(outcome(function, *before)), repr(first), (function, args))
        self.assertEqual(repr(args), repr(before))

    def test_plain_arguments(self):
        for call in CALLS:
            self.check(*call)

    def test_any_values(self):
        for call in ANY_VALUE_CALLS:
            for value in VALUES:
                self.check(*call, value)

    def test_calls_between_do_not_matter(self):
        first = [repr(outcome(*call)) for call in CALLS]
        again = [repr(outcome(*call)) for call in reversed(CALLS)]
        self.assertEqual(first, again[::-1])
        first = [repr(outcome(*call, value)) for call in ANY_VALUE_CALLS for value in VALUES]
        again = [repr(outcome(*call, value)) for call in reversed(ANY_VALUE_CALLS) for value in reversed(VALUES)]
        self.assertEqual(first, again[::-1])

    def test_only_the_parsers_raise_errors(self):
        for call in ANY_VALUE_CALLS:
            for value in VALUES:
                error = outcome(*call, value)[0]
                allowed = (None, "BadText") if call[0] in (parse_tool, parse_plan) else (None,)
                self.assertIn(error, allowed, (call, value))

    def test_a_value_that_changes_later(self):
        turns = [0, 0]
        value = (turns,)
        self.assertIs(plan_holds(12, (T,), ALL, 12, value), False)
        turns.pop()
        self.assertIs(plan_holds(12, (T,), ALL, 12, value), False)
        lengths = [1, 5, 9]
        self.assertIs(fewest_holds(12, (T, P), ALL, 1, (FOUND, lengths)), False)
        self.assertIs(fewest_holds(12, (T, P), ALL, 1, (FOUND, tuple(lengths))), True)
        lengths[0] = True
        self.assertIs(fewest_holds(12, (T, P), ALL, 1, (FOUND, tuple(lengths))), False)


if __name__ == "__main__":
    unittest.main()
