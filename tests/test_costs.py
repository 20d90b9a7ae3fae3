"""Plans with the least cost [3] [12]."""

import unittest
from itertools import combinations, product

from blindpush.costs import cost_widths, find_cheap_plan, least_cost
from blindpush.plans import fewest_pushes, plan_holds
from tests.circles import (
    LARGE, P, T, all_tools, arc_places, least_by_search, merging_tool, place_sets, some_tools, turning_tool,
    width_by_search,
)

ALL = tuple(range(12))
ALL_60 = tuple(range(60))
THIRDS = ((0, 3), (20, 23), (40, 43))
HALVES = ((0, 0), (30, 30))
COSTS = {
    2: ((1, 1), (5, 2), (1, 100), (100, 3)), 3: ((1, 1, 3), (7, 3, 2)), 4: ((1, 2, 3, 4), (9, 4, 2, 1)),
}


class CostCase(unittest.TestCase):
    def check_plan(self, m, tools, costs, places, goal, cost):
        """The least cost is this one, and the plan that is found has it and reaches the goal."""
        told = (m, tools, costs, places, goal)
        self.assertEqual(least_cost(*told), cost, told)
        plan = find_cheap_plan(*told)
        if cost is None:
            self.assertIsNone(plan, told)
            return
        self.assertIs(type(plan), tuple)
        self.assertTrue(plan_holds(m, tools, places, goal, plan), told)
        self.assertEqual(sum(costs[index] for turn, index in plan), cost, told)
        for push in plan:
            self.assertIs(type(push), tuple)
            self.assertEqual([type(part) for part in push], [int, int])
            self.assertIn(push[0], range(m))

    def check_widths(self, m, tools, costs, goal, best, most):
        """The widths, by the cost of every arc."""
        lengths = range(1, m + 1)
        arcs = [(length, tuple(arc_places(m, begin, length))) for begin in range(m) for length in lengths]
        expected = tuple(
            max(length for length, places in arcs if best.get(places, most + 1) <= cost)
            for cost in range(most + 1)
        )
        self.assertEqual(cost_widths(m, tools, costs, goal, most), expected, (m, tools, costs, goal))

    def check_circle(self, m, tools, costs):
        """Every set of places and every goal, against a search over all sets of places."""
        for goal in range(1, m + 1):
            best = least_by_search(m, tools, costs, goal)
            for places in place_sets(m):
                self.check_plan(m, tools, costs, places, goal, best.get(places))
            self.check_widths(m, tools, costs, goal, best, 12)


class LeastCosts(CostCase):
    def test_one_tool(self):
        for m in range(1, 5):
            for tool in all_tools(m) if m < 4 else some_tools(m, 40):
                self.check_circle(m, (tool,), (3,))

    def test_several_tools(self):
        for many in (2, 3, 4):
            for m in (2, 3, 4):
                for tools in combinations(some_tools(m, 5), many):
                    for costs in COSTS[many]:
                        self.check_circle(m, tools, costs)

    def test_six_places(self):
        merging, halves, thirds = merging_tool(6), ((0, 0), (3, 3)), ((0, 0), (2, 2), (4, 4))
        for costs in ((1, 1, 1), (1, 4, 9), (9, 4, 1), (2, 5, 2), (100, 1, 1), (1, 100, 100), (1, 2, 3)):
            self.check_circle(6, (merging, halves, thirds), costs)

    def test_cheaper_with_more_pushes(self):
        tools = (((0, 5),), T)
        self.check_plan(12, tools, (10, 3), ALL, 1, 9)
        self.check_plan(12, tools, (8, 3), ALL, 1, 8)
        self.check_plan(12, tools, (100, 100), ALL, 1, 100)
        self.assertEqual(len(find_cheap_plan(12, tools, (10, 3), ALL, 1)), 3)
        self.assertEqual(find_cheap_plan(12, tools, (8, 3), ALL, 1)[0][1], 0)

    def test_equal_costs_count_pushes(self):
        for tools in ((T,), (P,), (T, P), (P, ((0, 0), (6, 6)))):
            for cost in (1, 7, 100):
                for places in (ALL, (0, 4), (0, 11), (3,)):
                    for goal in range(1, 13):
                        pushes = fewest_pushes(12, tools, places, goal)
                        expected = None if pushes is None else pushes * cost
                        self.check_plan(12, tools, (cost,) * len(tools), places, goal, expected)

    def test_equal_tools_with_different_costs(self):
        self.check_plan(12, (T, T, T), (9, 2, 5), ALL, 1, 6)
        self.assertEqual([index for turn, index in find_cheap_plan(12, (T, T, T), (9, 2, 5), ALL, 1)], [1, 1, 1])

    def test_a_goal_that_is_reached_already(self):
        for m, tool in ((1, ((0, 0),)), (12, T), (60, LARGE)):
            self.check_plan(m, (tool,), (100,), (m - 1,), 1, 0)
            self.check_plan(m, (tool,), (100,), tuple(range(m)), m, 0)
            self.assertEqual(find_cheap_plan(m, (tool,), (100,), (0,), 1), ())

    def test_a_goal_that_no_plan_reaches(self):
        for goal in range(1, 9):
            self.check_plan(12, (P, turning_tool(12)), (1, 1), ALL, goal, None)
        self.check_plan(12, (P, turning_tool(12)), (1, 1), ALL, 9, 1)

    def test_the_greatest_costs(self):
        for m in (2, 12, 13):
            self.check_plan(m, (merging_tool(m),), (100,), tuple(range(m)), 1, 100 * (m - 1))

    def test_costs_beyond_the_limits(self):
        # The document says nothing of what such costs lead to, only that they raise no error.
        for costs in ((0, 101), (101, 0), (0, 0), (-1, 2), (2, -1)):
            plan = find_cheap_plan(12, (T, P), costs, ALL, 1)
            self.assertTrue(plan_holds(12, (T, P), ALL, 1, plan))
            self.assertEqual(len(cost_widths(12, (T, P), costs, 1, 1001)), 1002)

    def test_sixty_places(self):
        tools = (LARGE, THIRDS, HALVES)
        for costs in ((1, 1, 1), (100, 1, 2), (50, 20, 33)):
            for goal in (1, 5, 20, 41, 59):
                for places in (ALL_60, (0, 59), tuple(range(30)), (0, 20, 40)):
                    cost = least_cost(60, tools, costs, places, goal)
                    self.assertIsNotNone(cost)
                    self.check_plan(60, tools, costs, places, goal, cost)
                    pushes = fewest_pushes(60, tools, places, goal)
                    self.assertLessEqual(min(costs) * pushes, cost)
                    self.assertLessEqual(cost, max(costs) * pushes)
        self.check_plan(60, (THIRDS, HALVES), (3, 5), ALL_60, 20, 13)
        self.check_plan(60, (THIRDS, HALVES), (3, 5), ALL_60, 21, 8)


class CostWidths(unittest.TestCase):
    def test_by_the_widths_of_each_tool(self):
        circles = ((12, (T, P)), (12, (P, ((0, 0), (6, 6)))), (12, (merging_tool(12), T, P)), (60, (LARGE, THIRDS)))
        for m, tools in circles:
            for costs in COSTS[len(tools)]:
                for goal in (1, 2, 5, m - 1, m):
                    expected = []
                    for cost in range(31):
                        wider = [
                            width_by_search(m, (tool,), expected[cost - paid])
                            for tool, paid in zip(tools, costs) if paid <= cost
                        ]
                        expected.append(max([goal] + wider))
                    self.assertEqual(cost_widths(m, tools, costs, goal, 30), tuple(expected))

    def test_less_than_all_costs(self):
        self.assertEqual(cost_widths(12, (T, P), (5, 4), 3, 3), (3, 3, 3, 3))
        self.assertEqual(cost_widths(12, (T,), (1,), 7, 0), (7,))

    def test_how_many_there_are(self):
        for most in (0, 1, 5, 999, 1000):
            found = cost_widths(12, (T,), (100,), 1, most)
            self.assertIs(type(found), tuple)
            self.assertEqual(len(found), most + 1)
        found = cost_widths(12, (T,), (100,), 1, 1000)
        self.assertEqual([found[cost] for cost in (0, 99, 100, 199, 200, 299, 300, 1000)], [1, 1, 5, 5, 9, 9, 12, 12])

    def test_they_end_at_the_last_length(self):
        self.assertEqual(cost_widths(12, (P,), (1,), 3, 4), (3, 4, 4, 4, 4))
        self.assertEqual(cost_widths(12, (turning_tool(12),), (1,), 7, 3), (7, 7, 7, 7))
        self.assertEqual(cost_widths(1, (((0, 0),),), (1,), 1, 2), (1, 1, 1))
        self.assertEqual(cost_widths(60, (((0, 5),),), (2,), 1, 3), (1, 1, 60, 60))

    def test_they_agree_with_the_least_cost(self):
        for tools, costs in product(((T, P), (P, ((0, 0), (6, 6)))), ((5, 2), (1, 7))):
            for goal in (1, 4, 9):
                widths = cost_widths(12, tools, costs, goal, 60)
                for length in range(1, 13):
                    enough = [cost for cost, width in enumerate(widths) if width >= length]
                    cost = least_cost(12, tools, costs, tuple(range(length)), goal)
                    self.assertEqual(cost, enough[0] if enough else None)


if __name__ == "__main__":
    unittest.main()
