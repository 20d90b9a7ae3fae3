"""Pushes and plans [3] [5]."""

import copy
import unittest

from blindpush.errors import BadPlan
from blindpush.tools import after_plan, push_place, push_places
from tests.circles import ANY_VALUES, LARGE, LONG, P, T, place_sets, sent_to, some_tools

TURNS = (0, 1, -1, 5, 11, 12, -12, 13, 36, -37, 1000, LONG, -LONG, 10 ** 29, -(10 ** 29) - 7)
CIRCLES = ((1, ((0, 0),)), (2, ((0, 1), (1, 0))), (6, ((2, 5), (4, 1))), (12, T), (12, P), (60, LARGE))
ALL = tuple(range(12))


class Pushes(unittest.TestCase):
    def test_every_place_and_turn(self):
        for m, tool in CIRCLES:
            for turn in TURNS:
                for place in range(m):
                    self.assertEqual(push_place(m, tool, turn, place), sent_to(m, tool, (place + turn) % m))

    def test_every_turn_of_one_round(self):
        for tool in some_tools(5, 60):
            for turn in range(-5, 6):
                for place in range(5):
                    self.assertEqual(push_place(5, tool, turn, place), sent_to(5, tool, (place + turn) % 5))

    def test_the_turn_comes_before_the_tool(self):
        self.assertEqual(push_place(12, T, 1, 4), 6)
        self.assertEqual(push_place(12, T, -1, 5), 2)

    def test_a_round_more_changes_nothing(self):
        for m, tool in CIRCLES:
            for turn in TURNS:
                for place in range(m):
                    sent = push_place(m, tool, turn, place)
                    for rounds in (-3, -1, 1, 2, 10 ** 20):
                        self.assertEqual(push_place(m, tool, turn + rounds * m, place), sent)

    def test_places_ascending_and_once(self):
        for m in (1, 3, 5):
            for tool in some_tools(m, 12):
                for turn in (0, 1, -2, LONG):
                    for places in place_sets(m):
                        sent = push_places(m, tool, turn, places)
                        self.assertIs(type(sent), tuple)
                        self.assertEqual(list(sent), sorted({sent_to(m, tool, (x + turn) % m) for x in places}))

    def test_places_of_larger_circles(self):
        for turn in TURNS:
            expected = sorted({sent_to(60, LARGE, (place + turn) % 60) for place in range(60)})
            self.assertEqual(list(push_places(60, LARGE, turn, tuple(range(60)))), expected)
            self.assertEqual(push_places(60, LARGE, turn, (7,)), (push_place(60, LARGE, turn, 7),))

    def test_targets_over_place_0_come_in_ascending_order(self):
        self.assertEqual(push_places(12, ((0, 10), (5, 2), (9, 6)), 0, (0, 5, 9)), (2, 6, 10))
        self.assertEqual(push_places(12, ((0, 10), (5, 2), (9, 6)), 0, (0, 5)), (2, 10))

    def test_equal_calls(self):
        for turn in TURNS:
            self.assertEqual(push_places(12, T, turn, ALL), push_places(12, T, turn, ALL))


class Plans(unittest.TestCase):
    def refused(self, tools, plan, index):
        with self.assertRaises(BadPlan) as caught:
            after_plan(12, tools, plan, ALL)
        self.assertEqual(caught.exception.index, index, plan)
        self.assertIs(type(caught.exception.index), type(index))

    def test_no_pushes(self):
        for places in ((0,), (3, 4), (0, 11), ALL):
            self.assertEqual(after_plan(12, (T,), (), places), places)

    def test_one_push_after_another(self):
        tools = (T, P, ((3, 0), (8, 5)))
        plan = ((3, 0), (-1, 2), (LONG, 1), (0, 0), (-LONG, 2), (7, 1))
        for many in range(len(plan) + 1):
            for places in (ALL, (0,), (2, 3, 9), (4, 5)):
                expected = list(places)
                for turn, index in plan[:many]:
                    expected = sorted({sent_to(12, tools[index], (x + turn) % 12) for x in expected})
                found = after_plan(12, tools, plan[:many], places)
                self.assertIs(type(found), tuple)
                self.assertEqual(list(found), expected)

    def test_the_pushes_come_in_order(self):
        tools = (((0, 1),), ((0, 0), (1, 1)))
        self.assertEqual(after_plan(3, tools, ((0, 0), (1, 1)), (0, 1, 2)), (1,))
        self.assertEqual(after_plan(3, tools, ((1, 1), (2, 0)), (0, 1, 2)), (1,))
        self.assertEqual(after_plan(12, (T, ((0, 0),)), ((0, 0), (0, 1)), ALL), (0,))
        self.assertEqual(after_plan(12, (T, ((0, 0),)), ((0, 1), (0, 0)), ALL), (2,))

    def test_the_index_chooses_the_tool(self):
        tools = tuple(((0, target),) for target in (3, 1, 2, 0))
        for index, target in enumerate((3, 1, 2, 0)):
            self.assertEqual(after_plan(4, tools, ((0, index),), (0, 2)), (target,))

    def test_a_hundred_pushes(self):
        step = ((0, 0), (1, 1), (2, 2))
        self.assertEqual(after_plan(3, (step,), ((1, 0),) * 100, (0,)), (1,))
        self.assertEqual(after_plan(12, (T,), ((0, 0),) * 100, ALL), (2, 6, 10))
        self.refused((T,), ((0, 0),) * 101, None)
        self.refused((T,), (None,) * 101, None)
        self.refused((T,), (None,) * 100, 0)
        self.refused((T,), ((0, 0),) * 99 + ((0, 1),), 99)

    def test_digits_of_turns(self):
        for turn in (LONG, -LONG):
            expected = tuple(sorted({sent_to(12, T, (x + turn) % 12) for x in ALL}))
            self.assertEqual(after_plan(12, (T,), ((turn, 0),), ALL), expected)
        for turn in (LONG + 1, -LONG - 1, 10 ** 31 - 1, 10 ** 40 - 1, 1 - 10 ** 40):
            self.refused((T,), ((turn, 0),), 0)
            self.refused((T,), ((LONG, 0), (-LONG, 0), (turn, 0)), 2)

    def test_indexes_that_do_not_exist(self):
        for tools in ((T,), (T, P), (T, P, T), (T, P, T, P)):
            self.assertTrue(after_plan(12, tools, ((0, len(tools) - 1),), ALL))
            for index in (-len(tools), -1, len(tools), 4, 10 ** 40 - 1):
                self.refused(tools, ((0, index),), 0)

    def test_bools_are_not_numbers(self):
        expected = after_plan(12, (T, P), ((0, 0), (1, 1)), ALL)
        for _ in range(2):
            self.refused((T, P), ((False, 0), (1, 1)), 0)
            self.refused((T, P), ((0, False), (1, 1)), 0)
            self.refused((T, P), ((0, 0), (True, 1)), 1)
            self.refused((T, P), ((0, 0), (1, True)), 1)
            self.assertEqual(after_plan(12, (T, P), ((0, 0), (1, 1)), ALL), expected)

    def test_values_that_are_no_plans(self):
        for value in ANY_VALUES:
            if value != ():
                self.refused((T,), value, 0 if isinstance(value, tuple) else None)
        self.refused((T,), [], None)
        self.refused((T,), [(0, 0)], None)
        self.refused((T,), [None] * 101, None)
        self.refused((T,), {"0": (0, 0)}, None)

    def test_values_that_are_no_pushes(self):
        pushes = ((0, 0),) * 3
        for value in ANY_VALUES:
            if value != (0, 0):
                for index in range(3):
                    self.refused((T,), pushes[:index] + (value,) + pushes[index:], index)
        for value in ((), (0,), (0, 0, 0), [0, 0], ("0", 0), (0, "0"), ([0], 0), (0, [0]), (None, 0), (0, None)):
            self.refused((T,), (value,), 0)

    def test_the_first_wrong_item_counts(self):
        self.refused((T,), ((0, 0), (0, 1), None), 1)
        self.refused((T,), ((0, 0), None, (0, 1)), 1)
        self.refused((T,), (None, (0, 1)), 0)

    def test_arguments_do_not_change(self):
        for value in ANY_VALUES[1:] + ([(0, 0)], ((0, 0), [0, 0])):
            before = copy.deepcopy(value)
            try:
                after_plan(12, (T,), value, ALL)
            except BadPlan:
                pass
            self.assertEqual(repr(value), repr(before))

    def test_equal_calls(self):
        plan = ((3, 0), (-4, 1), (LONG, 0))
        self.assertEqual(after_plan(12, (T, P), plan, ALL), after_plan(12, (T, P), plan, ALL))


if __name__ == "__main__":
    unittest.main()
