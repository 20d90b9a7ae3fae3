"""Periods, and tools made from tools [2] (d) (e) [3] [11]."""

import unittest
from itertools import combinations, product
from math import lcm

from blindpush.maps import (
    combined, common_period, mirrored_tool, period_of, plan_tool, table_of, tool_of, turned_tool,
)
from blindpush.plans import find_plan
from blindpush.tools import is_tool
from tests.circles import (
    ANY_VALUES, LARGE, LONG, P, T, all_repeat, all_tools, merging_tool, repeats, sent_to, some_tools, turning_tool,
)

THIRDS = ((0, 3), (20, 23), (40, 43))
HALVES = ((0, 0), (30, 30))
OVER = ((3, 10), (8, 0), (11, 4))
CIRCLES = ((1, ((0, 0),)), (2, ((0, 1), (1, 0))), (6, ((2, 5), (4, 1))), (12, T), (12, P), (12, OVER), (60, LARGE))
TURNS = (0, 1, -1, 5, 12, -13, 1000, LONG, -LONG)


class MapCase(unittest.TestCase):
    def check_tool(self, m, tool, table):
        """The tool is one for m, and sends the places to these targets."""
        self.assertTrue(is_tool(m, tool), (m, tool))
        self.assertEqual([sent_to(m, tool, place) for place in range(m)], list(table), (m, tool))


class Periods(unittest.TestCase):
    def check(self, m, tools):
        periods = []
        for tool in tools:
            periods.append(min(step for step in range(1, m + 1) if m % step == 0 and repeats(m, tool, step)))
            self.assertEqual(period_of(m, tool), periods[-1], (m, tool))
        self.assertEqual(common_period(m, tools), lcm(*periods), (m, tools))
        return lcm(*periods)

    def test_small_circles(self):
        for m in range(1, 6):
            for tool in all_tools(m):
                self.check(m, (tool,))
        for tool in some_tools(6, 200):
            self.check(6, (tool,))

    def test_tools_that_repeat(self):
        for m in (1, 2, 3, 4, 6, 12):
            self.assertEqual(period_of(m, turning_tool(m)), 1)
        self.assertEqual([period_of(60, tool) for tool in (THIRDS, HALVES, LARGE, ((0, 7),))], [20, 30, 60, 60])
        self.assertEqual(period_of(12, ((0, 1), (5, 6), (10, 11))), 12)
        # The targets have equal steps here, but the arcs have not, and the other way round.
        self.assertEqual(period_of(12, ((0, 1), (3, 7))), 12)
        self.assertEqual(period_of(12, ((0, 1), (6, 8))), 12)

    def test_a_circle_of_one_place(self):
        self.assertEqual(period_of(1, ((0, 0),)), 1)
        self.assertEqual(common_period(1, (((0, 0),),) * 4), 1)

    def test_several_tools(self):
        quarters = tuple((15 * k, (15 * k + 58) % 60) for k in range(4))
        fifths = tuple((12 * k + 7, (12 * k + 50) % 60) for k in range(5))
        for many in (1, 2, 3, 4):
            for tools in product((THIRDS, HALVES, quarters, fifths), repeat=many):
                self.check(60, tools)
        self.assertEqual(common_period(60, (quarters, fifths)), 60)
        self.assertEqual(common_period(60, (HALVES, quarters)), 30)
        self.assertEqual(common_period(60, (THIRDS, THIRDS)), 20)
        self.assertEqual(common_period(12, (turning_tool(12), P)), 4)
        self.assertEqual(common_period(12, (((0, 0), (6, 6)), P)), 12)

    def test_what_all_places_can_be_brought_to(self):
        circles = [(12, tools) for tools in ((T,), (P,), (T, P), (((0, 0), (6, 6)),), (turning_tool(12),))]
        circles += [(60, tools) for tools in ((THIRDS,), (HALVES,), (THIRDS, HALVES), (LARGE,))]
        circles += [(4, tools) for tools in combinations(some_tools(4, 12), 2)]
        circles += [(m, (tool,)) for m in (1, 2, 3, 4, 6) for tool in some_tools(m, 40)]
        for m, tools in circles:
            period = self.check(m, tools)
            for goal in range(1, m + 1):
                plan = find_plan(m, tools, tuple(range(m)), goal)
                self.assertEqual(plan is not None, goal >= m - period + 1, (m, tools, goal))

    def test_all_repeat_after_the_common_period(self):
        for m in (4, 6):
            for tools in combinations(some_tools(m, 12), 2):
                steps = [step for step in range(1, m + 1) if m % step == 0 and all_repeat(m, tools, step)]
                self.assertEqual(common_period(m, tools), steps[0])


class TurnedAndMirrored(MapCase):
    def check_turned(self, m, tool, turn):
        table = [(sent_to(m, tool, (place + turn) % m) - turn) % m for place in range(m)]
        self.check_tool(m, turned_tool(m, tool, turn), table)

    def check_mirrored(self, m, tool):
        table = [-sent_to(m, tool, -place % m) % m for place in range(m)]
        self.check_tool(m, mirrored_tool(m, tool), table)

    def test_small_circles(self):
        for m in range(1, 6):
            for tool in some_tools(m, 150):
                self.check_mirrored(m, tool)
                for turn in range(-m, m + 1):
                    self.check_turned(m, tool, turn)

    def test_larger_circles(self):
        for m, tool in CIRCLES + ((60, ((0, 59),)), (12, ((0, 5),)), (13, merging_tool(13))):
            self.check_mirrored(m, tool)
            for turn in TURNS + tuple(range(m)):
                self.check_turned(m, tool, turn)

    def test_there_and_back(self):
        for m, tool in CIRCLES:
            self.assertEqual(mirrored_tool(m, mirrored_tool(m, tool)), tool)
            for turn in TURNS:
                self.assertEqual(turned_tool(m, turned_tool(m, tool, turn), -turn), tool)
            self.assertEqual(turned_tool(m, tool, 0), tool)
            self.assertEqual(turned_tool(m, tool, m), tool)

    def test_one_pair_begins_at_0(self):
        self.assertEqual(turned_tool(12, ((0, 5),), 7), ((0, 10),))
        self.assertEqual(mirrored_tool(12, ((0, 5),)), ((0, 7),))

    def test_arcs_that_come_to_go_over_place_0(self):
        self.assertEqual(turned_tool(12, T, 1), ((4, 5), (8, 9), (11, 1)))
        self.assertEqual(turned_tool(12, T, -1), ((1, 3), (6, 7), (10, 11)))


class Tables(MapCase):
    def test_small_circles(self):
        for m in range(1, 6):
            for tool in all_tools(m):
                table = table_of(m, tool)
                self.assertIs(type(table), tuple)
                self.check_tool(m, tool, table)
                self.assertEqual(tool_of(m, table), tool)

    def test_larger_circles(self):
        for m, tool in CIRCLES + ((60, ((0, 59),)), (13, merging_tool(13)), (60, ((58, 3), (59, 1)))):
            self.check_tool(m, tool, table_of(m, tool))
            self.assertEqual(tool_of(m, table_of(m, tool)), tool)

    def test_every_row_of_places(self):
        for m in range(1, 6):
            tools = {tuple(sent_to(m, tool, place) for place in range(m)): tool for tool in all_tools(m)}
            for table in product(range(m), repeat=m):
                self.assertEqual(tool_of(m, table), tools.get(table), table)

    def test_numbers_of_arcs(self):
        for m in (12, 13, 14, 60):
            for arcs in range(1, min(m, 14) + 1):
                table = tuple(min(place, arcs - 1) for place in range(m))
                found = tool_of(m, table)
                if arcs > 12:
                    self.assertIsNone(found)
                else:
                    self.assertEqual(len(found), arcs)
                    self.check_tool(m, found, table)
        self.assertIsNone(tool_of(60, tuple(range(60))))
        # The first and the last of these thirteen rows of equal targets are one arc.
        self.assertEqual(len(tool_of(13, tuple(range(12)) + (0,))), 12)

    def test_targets_that_do_not_come_in_order(self):
        for table in ((0, 2, 1, 3), (3, 2, 1, 0), (0, 1, 0, 1), (1, 0, 0, 2), (0, 0, 2, 1)):
            self.assertIsNone(tool_of(4, table))
        self.assertIsNone(tool_of(12, (0,) * 3 + (5,) * 3 + (0,) * 3 + (5,) * 3))
        self.assertIsNone(tool_of(6, (0, 1, 2, 0, 1, 2)))
        self.assertEqual(tool_of(4, (3, 0, 1, 2)), ((0, 3), (1, 0), (2, 1), (3, 2)))

    def test_arcs_over_place_0(self):
        self.assertEqual(tool_of(6, (3, 0, 0, 0, 3, 3)), ((1, 0), (4, 3)))
        self.assertEqual(tool_of(4, (2, 2, 0, 2)), ((2, 0), (3, 2)))
        self.assertEqual(tool_of(4, (1, 2, 2, 1)), ((1, 2), (3, 1)))

    def test_tables_of_other_lengths(self):
        table = table_of(12, T)
        for value in (table[:-1], table + (10,), (), table * 2):
            self.assertIsNone(tool_of(12, value))
        self.assertIsNone(tool_of(1, ()))
        self.assertEqual(tool_of(1, (0,)), ((0, 0),))
        self.assertIsNone(tool_of(1, (1,)))

    def test_places_outside_the_circle(self):
        table = table_of(12, T)
        for wrong in (-1, 12, 10 ** 40 - 1, -(10 ** 40) + 1, -2, -10):
            for index in range(12):
                self.assertIsNone(tool_of(12, table[:index] + (wrong,) + table[index + 1:]))
        self.assertIsNone(tool_of(2, (2, 2)))
        self.assertIsNone(tool_of(2, (-1, -1)))

    def test_bools_and_lists(self):
        for _ in range(2):
            self.assertEqual(tool_of(2, (1, 1)), ((0, 1),))
            for value in ((True, 1), (1, True), (True, True), (False, 1), (0, False), [1, 1], ([1], 1), ((1,), 1)):
                self.assertIsNone(tool_of(2, value), value)
            self.assertIsNone(tool_of(1, (False,)))
            self.assertEqual(tool_of(1, (0,)), ((0, 0),))
        self.assertIsNone(tool_of(12, list(table_of(12, T))))

    def test_any_values(self):
        for value in ANY_VALUES:
            for m in (3, 4, 12, 60):
                self.assertIsNone(tool_of(m, value))
            self.assertIsNone(tool_of(3, (0, value, None)))
            if value not in (0, 1) or isinstance(value, bool):
                self.assertIsNone(tool_of(3, (0, 0, value)))
                self.assertIsNone(tool_of(1, (value,)))
        self.assertIsNone(tool_of(12, T))
        self.assertIsNone(tool_of(3, T))
        self.assertIsNone(tool_of(3, "012"))
        self.assertIsNone(tool_of(2, {"a": 0, "b": 1}))


class Combined(MapCase):
    def check(self, m, first, turn, second):
        table = [sent_to(m, second, (sent_to(m, first, place) + turn) % m) for place in range(m)]
        self.check_tool(m, combined(m, first, turn, second), table)

    def test_small_circles(self):
        for m in range(1, 5):
            for first, second in product(some_tools(m, 30), repeat=2):
                for turn in range(m):
                    self.check(m, first, turn, second)

    def test_larger_circles(self):
        for first, second in product((T, P, OVER, turning_tool(12), merging_tool(12), ((0, 4),)), repeat=2):
            for turn in TURNS:
                self.check(12, first, turn, second)
        for first, second in product((LARGE, THIRDS, HALVES, ((0, 59),)), repeat=2):
            for turn in (0, 1, 17, 59, LONG, -LONG):
                self.check(60, first, turn, second)

    def test_arcs_that_become_one(self):
        self.assertEqual(combined(12, T, 0, ((0, 1), (3, 5))), ((0, 1), (5, 5)))
        self.assertEqual(combined(12, T, 0, ((5, 1), (8, 5))), ((5, 1), (9, 5)))
        self.assertEqual(combined(12, T, 0, ((0, 3),)), ((0, 3),))
        self.assertEqual(combined(12, ((3, 3), (8, 7)), 0, ((0, 3),)), ((0, 3),))
        # The tool has two arcs, but all targets of the first one lie in one of them.
        self.assertEqual(combined(12, T, 0, ((1, 8), (11, 9))), ((0, 8),))

    def test_the_turn_comes_between(self):
        self.assertEqual(combined(12, ((0, 4),), 1, T), ((0, 6),))
        self.assertEqual(combined(12, ((0, 4),), 0, T), ((0, 2),))
        self.assertEqual(combined(12, ((0, 4),), -5, T), ((0, 10),))


class PlanTools(MapCase):
    def check(self, m, tools, plan):
        table = list(range(m))
        for turn, index in plan:
            table = [sent_to(m, tools[index], (place + turn) % m) for place in table]
        self.check_tool(m, plan_tool(m, tools, plan), table)

    def test_small_circles(self):
        for m in range(1, 5):
            for tools in combinations(some_tools(m, 8), 2):
                pushes = [(turn, index) for turn in range(m) for index in range(2)]
                for many in (1, 2):
                    for plan in product(pushes, repeat=many):
                        self.check(m, tools, plan)

    def test_larger_circles(self):
        tools = (T, P, OVER, turning_tool(12))
        for plan in (((0, 3),), ((5, 3), (7, 3)), ((1, 0), (2, 1), (3, 2), (4, 3)), ((LONG, 1), (-LONG, 2))):
            self.check(12, tools, plan)
        for plan in (((0, 0),), ((59, 1),), ((1, 1), (2, 2)), ((-7, 0), (13, 0), (LONG, 2))):
            self.check(60, (LARGE, THIRDS, HALVES), plan)

    def test_one_push_without_a_turn_is_its_tool(self):
        for m, tool in CIRCLES:
            self.assertEqual(plan_tool(m, (tool,), ((0, 0),)), tool)
            self.assertEqual(plan_tool(m, (((0, 0),), tool), ((0, 1),)), tool)

    def test_two_pushes_are_combined_tools(self):
        for turn in TURNS:
            self.assertEqual(plan_tool(12, (T, P), ((0, 0), (turn, 1))), combined(12, T, turn, P))

    def test_a_hundred_pushes(self):
        self.check(12, (T, turning_tool(12)), ((1, 1),) * 99 + ((0, 0),))
        self.check(12, (turning_tool(12),), ((5, 0),) * 100)
        self.check(13, (merging_tool(13),), ((1, 0),) * 100)
        self.check(12, (turning_tool(12),), ((5, 0),) * 101)

    def test_plans_that_are_found(self):
        for m, tools in ((12, (T,)), (12, (P, ((0, 0), (6, 6)))), (60, (LARGE,)), (60, (THIRDS, HALVES))):
            plan = find_plan(m, tools, tuple(range(m)), 1)
            self.assertEqual(len(plan_tool(m, tools, plan)), 1)
            self.check(m, tools, plan)


if __name__ == "__main__":
    unittest.main()
