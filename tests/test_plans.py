"""Plans with the fewest pushes [2] (b) (g) [3] [9]."""

import unittest
from itertools import combinations, product

from blindpush.plans import fewest_holds, fewest_pushes, find_plan, plan_holds
from tests.circles import (
    ANY_VALUES, LARGE, LONG, P, T, all_pushes, all_tools, least_by_search, merging_tool, place_sets, pushed,
    some_tools, spread_by_search, turning_tool, width_by_search,
)

ALL = tuple(range(12))
ALL_60 = tuple(range(60))


def after(m, tools, plan, places):
    for push in plan:
        places = pushed(m, tools, push, places)
    return places


def shortest_of_all_plans(m, tools, places, goal):
    """The fewest pushes, by trying every plan of up to m - 1 pushes with turns from 0 to m - 1."""
    for many in range(m):
        for plan in product(all_pushes(m, tools), repeat=many):
            if spread_by_search(m, after(m, tools, plan, places)) <= goal:
                return many
    return None


def lengths_by_search(m, tools, goal, many):
    """The goal and its widths, so many numbers in all."""
    lengths = [goal]
    while len(lengths) < many:
        lengths.append(width_by_search(m, tools, lengths[-1]))
    return tuple(lengths[:many])


class PlanCase(unittest.TestCase):
    def check_plan(self, m, tools, places, goal, many):
        """The plan that is found has so many pushes and does what it should."""
        told = (m, tools, places, goal)
        self.assertEqual(fewest_pushes(*told), many, told)
        plan = find_plan(*told)
        if many is None:
            self.assertIsNone(plan, told)
            return
        self.assertIs(type(plan), tuple)
        self.assertEqual(len(plan), many, told)
        self.assertLessEqual(many, m - 1)
        for push in plan:
            self.assertIs(type(push), tuple)
            self.assertEqual([type(part) for part in push], [int, int])
            self.assertIn(push[0], range(m))
            self.assertIn(push[1], range(len(tools)))
        self.assertLessEqual(spread_by_search(m, after(m, tools, plan, places)), goal, told)
        self.assertIs(plan_holds(*told, plan), True)
        self.assertIs(fewest_holds(*told, (plan, lengths_by_search(m, tools, goal, many))), True)

    def check_circle(self, m, tools):
        """Every set of places and every goal, against a search over all sets of places."""
        for goal in range(1, m + 1):
            best = least_by_search(m, tools, (1,) * len(tools), goal)
            for places in place_sets(m):
                self.check_plan(m, tools, places, goal, best.get(places))


class FewestPushes(PlanCase):
    def test_every_plan_with_one_tool(self):
        for m, many in ((1, 1), (2, 9), (3, 60), (4, 20)):
            for tool in some_tools(m, many):
                for places in place_sets(m):
                    for goal in range(1, m + 1):
                        expected = shortest_of_all_plans(m, (tool,), places, goal)
                        self.assertEqual(fewest_pushes(m, (tool,), places, goal), expected, (m, tool, places, goal))

    def test_every_plan_with_two_tools(self):
        for m, many in ((2, 8), (3, 8)):
            for tools in combinations(some_tools(m, many), 2):
                for places in place_sets(m):
                    for goal in range(1, m + 1):
                        expected = shortest_of_all_plans(m, tools, places, goal)
                        self.assertEqual(fewest_pushes(m, tools, places, goal), expected, (m, tools, places, goal))

    def test_one_tool(self):
        for m in range(1, 5):
            for tool in all_tools(m):
                self.check_circle(m, (tool,))
        for tool in some_tools(5, 60):
            self.check_circle(5, (tool,))
        for tool in some_tools(6, 25):
            self.check_circle(6, (tool,))

    def test_several_tools(self):
        for many in (2, 3, 4):
            for m in (2, 3, 4):
                for tools in combinations(some_tools(m, 7), many):
                    self.check_circle(m, tools)
        self.check_circle(6, (((0, 0), (3, 3)), ((0, 0), (2, 2), (4, 4))))
        self.check_circle(6, (((1, 3), (2, 4), (4, 0)), ((0, 1), (3, 4)), ((0, 2), (5, 4))))

    def test_a_goal_that_is_reached_already(self):
        for m, tool in ((1, ((0, 0),)), (12, T), (12, P), (60, LARGE)):
            for places in ((0,), (m - 1,), tuple(range(m)), tuple(range(0, m, 2))):
                for goal in range(spread_by_search(m, places), m + 1):
                    self.check_plan(m, (tool,), places, goal, 0)

    def test_a_goal_that_no_plan_reaches(self):
        for goal in range(1, 9):
            self.check_plan(12, (P,), ALL, goal, None)
        self.check_plan(12, (P,), ALL, 9, 1)
        self.check_plan(12, (P,), (0, 3), 3, 1)
        self.check_plan(12, (P,), (0, 4), 3, None)
        for m in (2, 5, 12):
            for goal in range(1, m):
                self.check_plan(m, (turning_tool(m),), tuple(range(m)), goal, None)

    def test_one_place(self):
        for place in range(12):
            for goal in (1, 2, 12):
                self.check_plan(12, (T,), (place,), goal, 0)

    def test_a_circle_of_one_place(self):
        self.check_plan(1, (((0, 0),),), (0,), 1, 0)
        self.check_plan(1, (((0, 0),),) * 4, (0,), 1, 0)

    def test_a_circle_of_sixty_places(self):
        thirds = ((0, 3), (20, 23), (40, 43))
        halves = ((0, 0), (30, 30))
        for tools in ((LARGE,), (LARGE, thirds), (halves, thirds), (thirds, halves), (((0, 59),), LARGE)):
            for goal in (1, 2, 7, 19, 20, 30, 40, 41, 59, 60):
                lengths = lengths_by_search(60, tools, goal, 60)
                for places in (ALL_60, (0, 59), (5,), (0, 29, 30), tuple(range(3, 60, 7)), tuple(range(50))):
                    spread = spread_by_search(60, places)
                    reaching = [many for many, length in enumerate(lengths) if length >= spread]
                    self.check_plan(60, tools, places, goal, reaching[0] if reaching else None)
        self.check_plan(60, (thirds,), ALL_60, 40, None)
        self.check_plan(60, (((0, 59),),), ALL_60, 1, 1)

    def test_the_most_pushes_that_are_ever_needed(self):
        for m in range(2, 14):
            self.check_plan(m, (merging_tool(m),), tuple(range(m)), 1, m - 1)

    def test_arcs_over_place_0(self):
        over = ((3, 10), (8, 0), (11, 4))
        self.check_plan(12, (over,), (0, 1, 10, 11), 1, 1)
        self.check_plan(12, (over,), (0, 11), 1, 1)
        self.check_plan(12, (T,), (0, 1, 2, 10, 11), 1, 1)
        self.check_plan(12, (T,), (0, 1, 2, 3, 10, 11), 1, 2)

    def test_two_tools_that_only_help_each_other(self):
        halves, thirds = ((0, 0), (6, 6)), ((0, 0), (4, 4), (8, 8))
        self.check_plan(12, (halves,), ALL, 1, None)
        self.check_plan(12, (thirds,), ALL, 1, None)
        self.check_plan(12, (halves, thirds), ALL, 1, 3)
        self.check_plan(12, (thirds, halves), ALL, 1, 3)


class PlanHolds(unittest.TestCase):
    def check(self, tools, value, expected, places=ALL, goal=9):
        self.assertIs(plan_holds(12, tools, places, goal, value), expected, value)

    def test_plans_of_small_circles(self):
        for m, tools in ((3, (((0, 0), (2, 2)),)), (4, (((0, 1), (2, 2)), ((1, 3), (2, 0), (3, 1))))):
            for many in range(3):
                for plan in product(all_pushes(m, tools), repeat=many):
                    for places in place_sets(m):
                        spread = spread_by_search(m, after(m, tools, plan, places))
                        for goal in range(1, m + 1):
                            self.assertIs(plan_holds(m, tools, places, goal, plan), spread <= goal)

    def test_more_pushes_than_needed(self):
        self.check((T,), ((0, 0),) * 3, True)
        self.check((T,), ((0, 0),) * 3, False, goal=8)
        self.check((T,), ((7, 0), (0, 0), (5, 0)), True, places=(3,), goal=1)

    def test_the_plan_without_pushes(self):
        self.check((T,), (), True, goal=12)
        self.check((T,), (), False, goal=11)
        self.check((T,), (), True, places=(4,), goal=1)

    def test_a_hundred_pushes(self):
        self.check((T,), ((0, 0),) * 100, True)
        self.check((T,), ((0, 0),) * 101, False)
        self.check((T,), ((0, 0),) * 100, False, goal=8)
        self.check((T,), ((0, 0),) * 100, True, places=(3,), goal=1)
        self.check((T,), ((0, 0),) * 101, False, places=(3,), goal=12)

    def test_digits_of_turns(self):
        for turn in (LONG, -LONG, -1, -12, 12):
            self.check((T,), ((turn, 0),), True)
        for turn in (LONG + 1, -LONG - 1, 10 ** 31 - 1, 10 ** 40 - 1, 1 - 10 ** 40):
            self.check((T,), ((turn, 0),), False)
            self.check((T,), ((0, 0), (turn, 0)), False, goal=12)

    def test_indexes_that_do_not_exist(self):
        for tools in ((T,), (T, T), (T, T, T), (T, T, T, T)):
            self.check(tools, ((0, len(tools) - 1),), True)
            for index in (-len(tools), -1, len(tools), 4, 10 ** 40 - 1):
                self.check(tools, ((0, index),), False, goal=12)

    def test_bools_and_lists(self):
        for value in (((False, 0),), ((0, False),), ((1, True),), ((True, 1),)):
            self.check((T, T), value, False, goal=12)
        for value in ([], [(0, 0)], [[0, 0]], ([0, 0],), ((0, 0), [0, 0])):
            self.check((T, T), value, False, goal=12)
        self.check((T, T), ((0, 0), (1, 1)), True, goal=12)

    def test_any_values(self):
        for value in ANY_VALUES:
            self.check((T,), value, False, goal=12)
            if value != (0, 0):
                self.check((T,), ((0, 0), value), False, goal=12)
            if value != 0 or value is False:
                self.check((T,), ((0, value),), False, goal=12)


class FewestHolds(unittest.TestCase):
    def check(self, value, expected, m=12, tools=(T,), places=ALL, goal=1):
        self.assertIs(fewest_holds(m, tools, places, goal, value), expected, value)

    def setUp(self):
        self.plan = find_plan(12, (T,), ALL, 1)

    def expected(self, m, tools, places, goal, plan, lengths):
        """What DOC.md says of a plan and a tuple of numbers."""
        if spread_by_search(m, after(m, tools, plan, places)) > goal or len(lengths) != len(plan):
            return False
        bounds = [goal] + [width_by_search(m, tools, length) for length in lengths[:-1]]
        return (
            all(length in range(1, m + 1) for length in lengths)
            and all(length >= bound for length, bound in zip(lengths, bounds))
            and all(length < spread_by_search(m, places) for length in lengths[-1:])
        )

    def test_every_tuple_of_lengths_of_small_circles(self):
        for m, tool in ((3, ((0, 0), (2, 2))), (3, ((0, 1),)), (4, ((0, 0), (2, 2), (3, 3))), (4, ((1, 3), (3, 1)))):
            for places in place_sets(m):
                for goal in range(1, m + 1):
                    plan = find_plan(m, (tool,), places, goal)
                    for many in range(4):
                        for lengths in product(range(0, m + 2), repeat=many):
                            for value in (plan, (plan or ()) + ((0, 0),)):
                                if value is not None:
                                    expected = self.expected(m, (tool,), places, goal, value, lengths)
                                    self.check((value, lengths), expected, m, (tool,), places, goal)

    def test_what_it_accepts_is_the_fewest(self):
        for tool in some_tools(4, 30):
            for places in place_sets(4):
                for goal in range(1, 5):
                    for many in range(3):
                        for plan in (((0, 0),) * many, ((1, 0),) * many):
                            for lengths in product(range(1, 5), repeat=many):
                                if fewest_holds(4, (tool,), places, goal, (plan, lengths)):
                                    self.assertEqual(fewest_pushes(4, (tool,), places, goal), many)

    def test_lengths_that_are_greater_than_needed(self):
        self.check((self.plan, (1, 5, 9)), True)
        self.check((self.plan, (1, 5, 11)), True)
        self.check((self.plan, (1, 7, 10)), width_by_search(12, (T,), 7) <= 10)
        self.check((self.plan, (1, 5, 12)), False)
        self.check((self.plan, (1, 4, 9)), False)
        self.check((self.plan, (1, 5, 8)), False)
        self.check((self.plan, (0, 5, 9)), False)
        self.check((self.plan, (2, 5, 9)), width_by_search(12, (T,), 2) <= 5)
        self.check((self.plan, (9, 5, 1)), False)

    def test_the_first_length_is_at_least_the_goal(self):
        plan = find_plan(12, (T,), ALL, 6)
        self.assertEqual(len(plan), 2)
        self.check((plan, (6, 9)), True, goal=6)
        self.check((plan, (5, 9)), False, goal=6)

    def test_numbers_of_lengths(self):
        self.check((self.plan, ()), False)
        self.check((self.plan, (1,)), False)
        self.check((self.plan, (1, 5)), False)
        self.check((self.plan, (1, 5, 9, 11)), False)
        self.check((self.plan + ((0, 0),), (1, 5, 9)), False)
        self.check((self.plan + ((0, 0),), (1, 5, 9, 11)), False)
        self.check((self.plan[:2], (1, 5)), False)

    def test_a_plan_without_pushes(self):
        self.check(((), ()), True, places=(5,))
        self.check(((), ()), True, goal=12)
        self.check(((), ()), False)
        self.check(((), (1,)), False, places=(5,))
        self.check(((), []), False, places=(5,))
        self.check(((), None), False, places=(5,))
        self.check(((), ()), True, 1, (((0, 0),),), (0,))

    def test_a_plan_that_does_not_reach_the_goal(self):
        self.check((((0, 0),) * 3, (1, 5, 9)), False)
        self.check((None, (1, 5, 9)), False)

    def test_bools_and_lists(self):
        for _ in range(2):
            self.check((self.plan, (1, 5, 9)), True)
            self.check((self.plan, (True, 5, 9)), False)
            self.check((self.plan, [1, 5, 9]), False)
            self.check([self.plan, (1, 5, 9)], False)
            self.check((list(self.plan), (1, 5, 9)), False)
        one = find_plan(12, (T,), (0, 1), 1)
        self.check((one, (1,)), True, places=(0, 1))
        self.check((one, (True,)), False, places=(0, 1))

    def test_any_values(self):
        for value in ANY_VALUES:
            self.check(value, False)
            self.check((value, (1, 5, 9)), False)
            self.check((self.plan, value), False)
            self.check((self.plan, (1, 5, 9), value), False)
            if value != 5:
                self.check((self.plan, (1, value, 9)), False)
        self.check((self.plan,), False)
        self.check(self.plan, False)
        self.check((self.plan, (1, 5, 10 ** 40 - 1)), False)
        self.check((self.plan, (-1, 5, 9)), False)

    def test_circles_of_sixty_places(self):
        for goal in (1, 5, 20):
            plan = find_plan(60, (LARGE,), ALL_60, goal)
            lengths = lengths_by_search(60, (LARGE,), goal, len(plan))
            self.check((plan, lengths), True, 60, (LARGE,), ALL_60, goal)
            self.check((plan, lengths[:-1] + (60,)), False, 60, (LARGE,), ALL_60, goal)


if __name__ == "__main__":
    unittest.main()
