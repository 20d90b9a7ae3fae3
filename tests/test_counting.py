"""How many plans send all places to so many places [12]."""

import unittest
from itertools import product

from blindpush.counting import count_images, count_plans
from tests.circles import LARGE, P, T, all_pushes, all_tools, merging_tool, pushed, some_tools, turning_tool
from tests.states import ending

LONG = 10 ** 30 - 1


def images_by_search(m, tools, pushes):
    """The numbers of plans, counted one plan after another."""
    counts = [0] * m
    for plan in product(all_pushes(m, tools), repeat=pushes):
        places = tuple(range(m))
        for push in plan:
            places = pushed(m, tools, push, places)
        counts[len(places) - 1] += 1
    return tuple(counts)


class Counting(unittest.TestCase):
    def check(self, m, tools, pushes, expected):
        found = count_images(m, tools, pushes)
        self.assertIs(type(found), tuple)
        self.assertEqual(found, expected, (m, tools, pushes))
        self.assertEqual([type(many) for many in found], [int] * m)
        self.assertEqual(sum(found), (m * len(tools)) ** pushes)
        self.assertEqual(count_plans(m, tools, pushes), expected[0], (m, tools, pushes))

    def test_one_tool_by_a_plain_count(self):
        for m, most in ((1, 6), (2, 6), (3, 4), (4, 3)):
            for tool in all_tools(m) if m < 4 else some_tools(m, 30):
                for pushes in range(most + 1):
                    self.check(m, (tool,), pushes, images_by_search(m, (tool,), pushes))

    def test_several_tools_by_a_plain_count(self):
        for m, many, most in ((1, 4, 4), (2, 2, 4), (2, 3, 3), (3, 2, 3), (3, 4, 2), (5, 2, 2), (6, 3, 2)):
            tools = some_tools(m, 9)
            for first in range(len(tools)):
                chosen = tuple(tools[(first + 2 * step) % len(tools)] for step in range(many))
                for pushes in range(most + 1):
                    self.check(m, chosen, pushes, images_by_search(m, chosen, pushes))

    def test_twelve_places_by_a_plain_count(self):
        for tools in ((T,), (P,), (T, P), (merging_tool(12),), (turning_tool(12), T)):
            for pushes in range(3):
                self.check(12, tools, pushes, images_by_search(12, tools, pushes))

    def test_no_pushes(self):
        for m in range(1, 13):
            self.check(m, (((0, 0),),), 0, (0,) * (m - 1) + (1,))
            self.check(m, (((0, 0),),) * 4, 0, (0,) * (m - 1) + (1,))

    def test_one_place(self):
        for many in range(1, 5):
            for pushes in range(7):
                self.check(1, (((0, 0),),) * many, pushes, (many ** pushes,))

    def test_six_pushes_on_twelve_places(self):
        self.check(12, (((0, 5),),), 6, (12 ** 6,) + (0,) * 11)
        self.check(12, (turning_tool(12),), 6, (0,) * 11 + (12 ** 6,))
        self.check(12, (P,), 6, (0, 0, 12 ** 6) + (0,) * 9)
        # A push with one of these two tools leaves a single place, or leaves all places as many as they are.
        self.check(12, (((0, 5),), turning_tool(12)), 6, (24 ** 6 - 12 ** 6,) + (0,) * 10 + (12 ** 6,))

    def test_equal_tools_count_apart(self):
        for many in range(1, 5):
            for pushes in range(4):
                one = count_images(12, (T,), pushes)
                self.check(12, (T,) * many, pushes, tuple(number * many ** pushes for number in one))
        self.assertEqual(count_plans(2, (((0, 1),),) * 2, 1), 4)

    def test_more_pushes_never_lead_to_more_places(self):
        before = count_images(12, (T, merging_tool(12)), 0)
        for pushes in range(1, 7):
            after = count_images(12, (T, merging_tool(12)), pushes)
            self.assertEqual(sum(after), 24 ** pushes)
            for most in range(12):
                self.assertGreaterEqual(sum(after[:most]), 24 * sum(before[:most]))
            before = after


class Limits(unittest.TestCase):
    def check(self, m, tools, pushes, expected):
        for function in (count_plans, count_images):
            self.assertEqual(ending(function, m, tools, pushes), expected, (m, pushes))

    def test_places(self):
        for m in (13, 14, 60):
            for pushes in (0, 1, 6):
                self.check(m, (((0, 0),),), pushes, "raises TooLarge(12)")
        self.check(60, (LARGE,) * 4, 2, "raises TooLarge(12)")
        self.assertEqual(count_plans(12, (((0, 0),),), 6), 12 ** 6)

    def test_pushes(self):
        for m in (1, 2, 12):
            for pushes in (7, 8, 100, 10 ** 10, LONG):
                self.check(m, (((0, 0),),), pushes, "raises TooLarge(6)")
            self.assertEqual(count_plans(m, (((0, 0),),), 6), m ** 6)

    def test_both(self):
        for m, pushes in ((13, 7), (60, LONG), (13, LONG), (60, 7)):
            self.check(m, (((0, 0),),), pushes, "raises TooLarge(12)")


if __name__ == "__main__":
    unittest.main()
