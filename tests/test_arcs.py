"""Spreads, what is brought into arcs, and widths [2] (c) [6] [7] [8]."""

import unittest
from itertools import combinations

from blindpush.arcs import brought_into, lengths_of, spread_of, width_of
from tests.circles import (
    LARGE, P, T, all_repeat, all_tools, arc_places, place_sets, sent_to, some_tools, spread_by_search,
    width_by_search,
)


class Spreads(unittest.TestCase):
    def test_every_set_of_small_circles(self):
        for m in range(1, 9):
            for places in place_sets(m):
                self.assertEqual(spread_of(m, places), spread_by_search(m, places), (m, places))

    def test_one_place(self):
        for m in (1, 2, 12, 60):
            for place in range(m):
                self.assertEqual(spread_of(m, (place,)), 1)

    def test_all_places(self):
        for m in range(1, 61):
            self.assertEqual(spread_of(m, tuple(range(m))), m)

    def test_neighbours_over_place_0(self):
        self.assertEqual(spread_of(12, (0, 11)), 2)
        self.assertEqual(spread_of(60, (0, 1, 58, 59)), 4)
        self.assertEqual(spread_of(60, (0, 59)), 2)
        self.assertEqual(spread_of(2, (0, 1)), 2)
        self.assertEqual(spread_of(12, (1, 10)), 4)

    def test_equal_steps(self):
        for m in (4, 12, 60):
            for step in range(1, m):
                if m % step == 0:
                    self.assertEqual(spread_of(m, tuple(range(0, m, step))), m - step + 1)

    def test_the_same_after_a_turn(self):
        for m, places in ((12, (0, 1, 5)), (12, (2, 3, 8, 11)), (60, (0, 7, 8, 30, 59)), (7, tuple(range(7)))):
            spread = spread_of(m, places)
            for turn in range(m):
                turned = tuple(sorted((place + turn) % m for place in places))
                self.assertEqual(spread_of(m, turned), spread)


class BroughtIntoArcs(unittest.TestCase):
    def check(self, m, tool, begin, length):
        found = brought_into(m, tool, begin, length)
        arc = arc_places(m, begin, length)
        self.assertIs(type(found), tuple)
        self.assertEqual(list(found), [place for place in range(m) if sent_to(m, tool, place) in arc])
        return found

    def test_every_arc_of_small_circles(self):
        for m in range(1, 6):
            for tool in some_tools(m, 130):
                for begin in range(m):
                    for length in range(1, m + 1):
                        self.check(m, tool, begin, length)

    def test_every_arc_of_larger_circles(self):
        for m, tool in ((12, T), (12, P), (60, LARGE)):
            for begin in range(m):
                for length in range(1, m + 1):
                    self.check(m, tool, begin, length)

    def test_arcs_over_place_0(self):
        self.assertEqual(self.check(12, T, 10, 5), (0, 1, 2, 3, 4, 9, 10, 11))
        self.assertEqual(self.check(12, T, 11, 4), (0, 1, 2, 3, 4))
        self.assertEqual(self.check(12, T, 11, 3), ())

    def test_arcs_of_one_place(self):
        self.assertEqual(self.check(12, T, 2, 1), (0, 1, 2, 3, 4))
        self.assertEqual(self.check(12, T, 3, 1), ())

    def test_arcs_of_all_places(self):
        for begin in range(12):
            self.assertEqual(self.check(12, T, begin, 12), tuple(range(12)))

    def test_what_is_brought_in_is_an_arc(self):
        for m in range(1, 6):
            for tool in some_tools(m, 130):
                for begin in range(m):
                    for length in range(1, m):
                        found = brought_into(m, tool, begin, length)
                        if found:
                            self.assertEqual(spread_of(m, found), len(found))

    def test_equal_calls(self):
        self.assertEqual(brought_into(60, LARGE, 50, 20), brought_into(60, LARGE, 50, 20))


class Widths(unittest.TestCase):
    def check(self, m, tools):
        for length in range(1, m + 1):
            width = width_of(m, tools, length)
            self.assertEqual(width, width_by_search(m, tools, length), (m, tools, length))
            self.assertGreaterEqual(width, length)
            if length < m:
                self.assertEqual(width == length, all_repeat(m, tools, length), (m, tools, length))

    def test_one_tool(self):
        for m in range(1, 6):
            for tool in all_tools(m):
                self.check(m, (tool,))

    def test_one_tool_of_a_circle_of_six_places(self):
        for tool in some_tools(6, 300):
            self.check(6, (tool,))

    def test_two_tools(self):
        for m in range(1, 5):
            for tools in combinations(some_tools(m, 24), 2):
                self.check(m, tools)
                self.check(m, tools[::-1])

    def test_three_and_four_tools(self):
        for many in (3, 4):
            for m in (3, 4, 6):
                for tools in combinations(some_tools(m, 8), many):
                    self.check(m, tools)

    def test_larger_circles(self):
        for tools in ((T,), (P,), (T, P), (P, P), (P, ((0, 0), (6, 6))), (T, P, T, ((0, 11),))):
            self.check(12, tools)
        self.check(60, (LARGE,))
        self.check(60, (((0, 3), (20, 23), (40, 43)), ((0, 0), (30, 30))))

    def test_tools_that_repeat(self):
        # Each place is a target of its own: such a tool is only a turn and repeats after one place.
        for m in (1, 2, 5, 12):
            turn = tuple((place, (place + 3) % m) for place in range(m))
            self.assertEqual([width_of(m, (turn,), length) for length in range(1, m + 1)], list(range(1, m + 1)))

    def test_the_whole_circle_is_its_own_width(self):
        for m, tool in ((1, ((0, 0),)), (12, T), (12, P), (60, LARGE), (60, ((0, 5),))):
            self.assertEqual(width_of(m, (tool,), m), m)

    def test_one_target_brings_in_all_places(self):
        for m in (1, 2, 12, 60):
            self.assertEqual(width_of(m, (((0, m - 1),),), 1), m)


class Lengths(unittest.TestCase):
    def check(self, m, tools):
        for goal in range(1, m + 1):
            expected = [goal]
            while width_by_search(m, tools, expected[-1]) != expected[-1]:
                expected.append(width_by_search(m, tools, expected[-1]))
            self.assertEqual(lengths_of(m, tools, goal), tuple(expected), (m, tools, goal))

    def test_small_circles(self):
        for m in range(1, 5):
            for tool in all_tools(m):
                self.check(m, (tool,))

    def test_several_tools(self):
        for many in (2, 3, 4):
            for m in (3, 4, 6):
                for tools in combinations(some_tools(m, 7), many):
                    self.check(m, tools)

    def test_larger_circles(self):
        for tools in ((T,), (P,), (T, P), (P, ((0, 0), (6, 6)))):
            self.check(12, tools)
        self.check(60, (LARGE,))

    def test_the_whole_circle(self):
        for m, tool in ((1, ((0, 0),)), (12, T), (12, P), (60, LARGE)):
            self.assertEqual(lengths_of(m, (tool,), m), (m,))

    def test_tools_that_repeat_end_before_the_whole_circle(self):
        self.assertEqual([lengths_of(12, (P,), goal) for goal in (1, 4, 5, 8, 9)], [(1, 4), (4,), (5, 8), (8,), (9, 12)])
        self.assertEqual(lengths_of(12, (P, ((0, 0), (6, 6))), 1), (1, 6, 8, 12))
        self.assertEqual(lengths_of(60, (((0, 3), (20, 23), (40, 43)),), 1), (1, 20))
        turn = tuple((place, (place + 3) % 12) for place in range(12))
        self.assertEqual(lengths_of(12, (turn,), 7), (7,))

    def test_equal_calls(self):
        self.assertEqual(lengths_of(60, (LARGE,), 1), lengths_of(60, (LARGE,), 1))


if __name__ == "__main__":
    unittest.main()
