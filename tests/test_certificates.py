"""Certificates: a plan, or a number that excludes all plans [2] (a) (g) [3] [10]."""

import unittest
from itertools import combinations

from blindpush.plans import certificate_holds, find_certificate, find_plan, plan_holds
from tests.circles import (
    ANY_VALUES, LARGE, LONG, P, T, all_tools, excludes, least_by_search, place_sets, some_tools, turning_tool,
    width_by_search,
)

ALL = tuple(range(12))
THIRDS = ((0, 3), (20, 23), (40, 43))


def last_length(m, tools, goal):
    """The last one of the lengths of the goal."""
    while width_by_search(m, tools, goal) != goal:
        goal = width_by_search(m, tools, goal)
    return goal


class CertificateCase(unittest.TestCase):
    def check_found(self, m, tools, places, goal):
        told = (m, tools, places, goal)
        found = find_certificate(*told)
        self.assertIs(type(found), tuple)
        plan = find_plan(*told)
        if plan is not None:
            self.assertEqual(found, ("plan", plan), told)
        else:
            self.assertEqual(found, ("never", last_length(m, tools, goal)), told)
            self.assertTrue(excludes(*told, found[1]), told)
        self.assertIs(certificate_holds(*told, found), True, told)
        return found


class FindCertificate(CertificateCase):
    def check_circle(self, m, tools):
        """Either there is a plan or a number, never both."""
        for goal in range(1, m + 1):
            best = least_by_search(m, tools, (1,) * len(tools), goal)
            for places in place_sets(m):
                found = self.check_found(m, tools, places, goal)
                self.assertEqual(found[0], "plan" if places in best else "never")
                for number in range(-1, m + 2):
                    expected = excludes(m, tools, places, goal, number)
                    told = (m, tools, places, goal, ("never", number))
                    self.assertIs(certificate_holds(*told), expected, told)
                    self.assertFalse(expected and places in best, told)

    def test_one_tool(self):
        for m in range(1, 5):
            for tool in all_tools(m):
                self.check_circle(m, (tool,))
        for tool in some_tools(6, 15) + [((0, 1), (3, 4)), ((0, 0), (2, 2), (4, 4)), turning_tool(6)]:
            self.check_circle(6, (tool,))

    def test_several_tools(self):
        for many in (2, 3, 4):
            for m in (2, 4):
                for tools in combinations(some_tools(m, 7), many):
                    self.check_circle(m, tools)
        self.check_circle(6, (((0, 1), (3, 4)), ((1, 1), (4, 4)), turning_tool(6)))
        self.check_circle(6, (((0, 1), (3, 4)), ((0, 0), (2, 2), (4, 4))))

    def test_larger_circles(self):
        for m, tools in ((12, (T,)), (12, (P,)), (12, (T, P)), (12, (P, ((0, 0), (6, 6)))), (12, (P, P, P, P))):
            for places in (ALL, (0, 4), (0, 11), (3,), (1, 2, 3, 7)):
                for goal in range(1, m + 1):
                    self.check_found(m, tools, places, goal)
        for tools in ((LARGE,), (THIRDS,), (THIRDS, ((0, 0), (30, 30)))):
            for places in (tuple(range(60)), (0, 59), (7,), (0, 20, 40), tuple(range(41))):
                for goal in (1, 19, 20, 21, 39, 40, 41, 59, 60):
                    self.check_found(60, tools, places, goal)

    def test_the_number_is_the_last_length(self):
        everywhere = tuple(range(60))
        found = [find_certificate(60, (THIRDS,), everywhere, goal) for goal in (1, 20, 21, 40)]
        self.assertEqual(found, [("never", 20), ("never", 20), ("never", 40), ("never", 40)])
        self.assertEqual(find_certificate(60, (THIRDS,), everywhere, 41)[0], "plan")
        self.assertEqual(find_certificate(12, (turning_tool(12),), ALL, 7), ("never", 7))

    def test_edges(self):
        self.assertEqual(find_certificate(1, (((0, 0),),), (0,), 1), ("plan", ()))
        self.assertEqual(find_certificate(60, (LARGE,), (59,), 1), ("plan", ()))
        self.assertEqual(find_certificate(12, (P,), ALL, 12), ("plan", ()))


class CertificateHolds(CertificateCase):
    def check(self, value, expected, tools=(P,), places=ALL, goal=3):
        self.assertIs(certificate_holds(12, tools, places, goal, value), expected, value)

    def test_numbers(self):
        accepted = [number for number in range(-3, 15) if certificate_holds(12, (P,), ALL, 3, ("never", number))]
        self.assertEqual(accepted, [4, 8])
        accepted = [number for number in range(-3, 15) if certificate_holds(12, (P,), (0, 4), 3, ("never", number))]
        self.assertEqual(accepted, [4])
        turn = (turning_tool(12),)
        accepted = [number for number in range(-3, 15) if certificate_holds(12, turn, ALL, 3, ("never", number))]
        self.assertEqual(accepted, list(range(3, 12)))

    def test_the_number_is_at_least_the_goal_and_less_than_the_spread(self):
        self.check(("never", 4), True, goal=4)
        self.check(("never", 4), False, goal=5)
        self.check(("never", 8), True, goal=5)
        self.check(("never", 4), True, places=(0, 1, 2, 3, 4))
        self.check(("never", 4), False, places=(0, 1, 2, 3))
        self.check(("never", 12), False)
        self.check(("never", 0), False)
        self.check(("never", -4), False)
        self.check(("never", 16), False)
        self.check(("never", 10 ** 40 - 4), False)

    def test_all_tools_repeat(self):
        self.check(("never", 8), True, tools=(P, P))
        self.check(("never", 8), False, tools=(P, T))
        self.check(("never", 8), False, tools=(T, P))
        self.check(("never", 8), False, tools=(P, P, P, ((0, 0), (6, 6))))
        self.check(("never", 6), False)

    def test_plans(self):
        plan = find_plan(12, (P,), ALL, 9)
        self.check(("plan", plan), True, goal=9)
        self.check(("plan", plan), False, goal=8)
        self.check(("plan", ()), True, goal=12)
        self.check(("plan", ()), False, goal=11)
        self.check(("plan", plan * 100), True, goal=9)
        self.check(("plan", plan * 101), False, goal=9)
        self.check(("plan", ((LONG, 0), (-LONG, 0))), True, goal=9)
        self.check(("plan", ((LONG + 1, 0),)), False, goal=12)
        self.check(("plan", ((0, 1),)), False, goal=12)
        self.check(("plan", ((0, -1),)), False, goal=12)

    def test_words_and_proofs_belong_together(self):
        plan = find_plan(12, (P,), ALL, 9)
        self.check(("never", plan), False, goal=9)
        self.check(("plan", 8), False)
        for word in ("", "Plan", "plan ", "NEVER", "never\n", "none"):
            self.check((word, plan), False, goal=9)
            self.check((word, 8), False)

    def test_bools_and_lists(self):
        turn = (turning_tool(12),)
        for _ in range(2):
            self.check(("never", 1), True, tools=turn, goal=1)
            self.check(("never", True), False, tools=turn, goal=1)
            self.check(["never", 8], False)
            self.check(["plan", ()], False, goal=12)
            self.check(("plan", []), False, goal=12)
            self.check(("plan", [(0, 0)]), False, goal=12)
            self.check(("plan", ((False, 0),)), False, goal=12)
            self.check((["never"], 8), False)
            self.check(("never", [8]), False)
            self.check(("never", (8,)), False)

    def test_any_values(self):
        for value in ANY_VALUES:
            self.check(value, False)
            self.check(("never", value), False)
            self.check(("plan", value), False, goal=12)
            self.check((value, 8), False)
            self.check((value, ()), False, goal=12)
            self.check(("never", 8, value), False)
            self.check(("plan", (), value), False, goal=12)
        for value in ((), ("never",), ("plan",), "never", "plan", {"never": 8}):
            self.check(value, False)

    def test_what_it_accepts_is_correct(self):
        values = [("plan", ()), ("plan", ((0, 0),)), ("plan", ((1, 0), (2, 0))), ("plan", ((1, 0), (2, 1)))]
        values += [("never", number) for number in range(-1, 8)]
        for tool in some_tools(4, 40):
            for places in place_sets(4):
                for goal in range(1, 5):
                    there_is_one = find_plan(4, (tool,), places, goal) is not None
                    for value in values:
                        if certificate_holds(4, (tool,), places, goal, value):
                            self.assertEqual(value[0] == "plan", there_is_one)

    def test_plans_as_plan_holds(self):
        for goal in (1, 5, 9, 12):
            plans = ((), ((0, 0),), ((3, 0), (4, 0)), find_plan(12, (T,), ALL, 1), ((0, 1),), None, [], ((True, 0),))
            for plan in plans:
                expected = plan_holds(12, (T,), ALL, goal, plan)
                self.check(("plan", plan), expected, (T,), ALL, goal)


if __name__ == "__main__":
    unittest.main()
