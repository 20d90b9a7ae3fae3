"""What is a tool, its first error, and where it sends places [3] [4]."""

import copy
import unittest
from itertools import product

from blindpush.tools import is_tool, target_of, tool_error
from tests.circles import ANY_VALUES, LARGE, P, T, all_tools, sent_to, some_tools


def first_error(m, value):
    """The error that DOC.md names first, for a tuple of pairs of numbers."""
    for index, (begin, target) in enumerate(value):
        if not (0 <= begin < m and 0 <= target < m):
            return (index, "pair")
        least = 0 if index == 0 else value[index - 1][0] + 1
        if begin < least or (len(value) == 1 and begin > 0):
            return (index, "begin")
        # The targets come in order exactly if going to each of them in turn, and home, is one round.
        targets = [pair[1] for pair in value[:index + 1]]
        steps = [(after - before) % m for before, after in zip(targets, targets[1:] + targets[:1])]
        if index > 0 and (0 in steps or sum(steps) != m):
            return (index, "target")
    return None


def with_item(tool, index, item):
    return tool[:index] + (item,) + tool[index + 1:]


class ToolCase(unittest.TestCase):
    def check(self, m, value, error):
        self.assertEqual(tool_error(m, value), error, (m, value))
        self.assertIs(is_tool(m, value), error is None, (m, value))
        if error is not None:
            self.assertIs(type(tool_error(m, value)), tuple)


class WhatIsATool(ToolCase):
    def test_every_tool_of_small_circles(self):
        for m in range(1, 6):
            for tool in all_tools(m):
                self.check(m, tool, None)

    def test_every_row_of_pairs_of_small_circles(self):
        for m, most in ((1, 3), (2, 3), (3, 3)):
            tools = set(all_tools(m))
            pairs = list(product(range(-1, m + 1), repeat=2))
            for many in range(1, most + 1):
                for value in product(pairs, repeat=many):
                    self.assertEqual(first_error(m, value) is None, value in tools)
                    self.check(m, value, first_error(m, value))

    def test_circle_of_one_place(self):
        self.check(1, ((0, 0),), None)
        self.check(1, ((0, 1),), (0, "pair"))
        self.check(1, ((1, 0),), (0, "pair"))
        self.check(1, ((0, 0), (0, 0)), (1, "begin"))
        self.check(1, (), (None, "tool"))

    def test_circle_of_sixty_places(self):
        self.check(60, LARGE, None)
        self.check(60, ((0, 59),), None)
        self.check(60, ((0, 60),), (0, "pair"))
        self.check(60, ((58, 0), (59, 59)), None)
        self.check(60, ((58, 0), (60, 59)), (1, "pair"))

    def test_number_of_pairs(self):
        twelve = tuple((place, place) for place in range(12))
        self.check(12, twelve, None)
        self.check(60, twelve, None)
        self.check(60, twelve + ((12, 12),), (None, "tool"))
        self.check(13, twelve + ((12, 12),), (None, "tool"))
        self.check(60, LARGE + LARGE[:1], (None, "tool"))
        self.check(60, (None,) * 12, (0, "pair"))
        self.check(60, (None,) * 13, (None, "tool"))
        self.check(12, ((0, 3),), None)
        self.check(12, (), (None, "tool"))

    def test_only_one_pair_begins_at_0(self):
        for begin in range(1, 12):
            self.check(12, ((begin, 1),), (0, "begin"))
        self.check(12, ((12, 1),), (0, "pair"))
        self.check(12, ((3, 1), (4, 2)), None)

    def test_pairs_replaced(self):
        for tool, m in ((T, 12), (LARGE, 60)):
            for index in range(len(tool)):
                for begin, target in product((-1, 0, 1, 5, 9, 11, 31, 59, m), (-1, 0, 2, 6, 10, 50, 59, m)):
                    value = with_item(tool, index, (begin, target))
                    self.check(m, value, first_error(m, value))

    def test_pairs_inserted(self):
        for index in range(len(T) + 1):
            for pair in product(range(-1, 13), repeat=2):
                value = T[:index] + (pair,) + T[index:]
                self.check(12, value, first_error(12, value))

    def test_pairs_left_out(self):
        self.check(12, T[1:], None)
        self.check(12, T[:1], None)
        self.check(12, T[2:], (0, "begin"))
        for index in range(len(LARGE)):
            self.check(60, LARGE[:index] + LARGE[index + 1:], None)

    def test_pairs_out_of_order(self):
        self.check(12, (T[1], T[0], T[2]), (1, "begin"))
        self.check(12, T[1:] + T[:1], (2, "begin"))
        self.check(12, tuple(reversed(T)), (1, "begin"))
        self.check(12, ((0, 2), (5, 10), (9, 6)), (2, "target"))
        for index in range(len(LARGE) - 1):
            value = LARGE[:index] + (LARGE[index + 1], LARGE[index]) + LARGE[index + 2:]
            self.check(60, value, (index + 1, "begin"))

    def test_pairs_turned(self):
        self.check(12, ((2, 0), (5, 6), (9, 10)), None)
        self.check(12, ((0, 2), (6, 5), (9, 10)), None)
        self.check(12, ((0, 2), (5, 6), (10, 9)), None)
        self.check(12, ((0, 2), (7, 1), (9, 10)), (2, "target"))
        self.check(12, ((0, 2), (1, 7), (9, 10)), None)

    def test_pairs_repeated(self):
        for index in range(len(T)):
            self.check(12, T[:index + 1] + T[index:], (index + 1, "begin"))
        self.check(12, T + T[:1], (3, "begin"))
        self.check(12, ((0, 2), (5, 2)), (1, "target"))
        self.check(12, ((0, 2), (5, 6), (9, 2)), (2, "target"))

    def test_targets_go_round_over_place_0(self):
        self.check(12, ((0, 10), (5, 2), (9, 6)), None)
        self.check(12, ((0, 6), (5, 10), (9, 2)), None)
        self.check(12, ((0, 6), (5, 2), (9, 10)), (2, "target"))
        self.check(12, ((0, 11), (1, 0), (2, 10)), None)
        self.check(12, ((0, 11), (1, 10), (2, 0)), (2, "target"))

    def test_first_error_comes_first(self):
        self.check(12, ((4, 2), (4, 2), (12, 0)), (1, "begin"))
        self.check(12, ((4, 2), (5, 2), (12, 0)), (1, "target"))
        self.check(12, ((4, 2), (4, 12), None), (1, "pair"))
        self.check(12, ((4, 2), None, (4, 2)), (1, "pair"))
        self.check(12, (None, (4, 2), (4, 2)), (0, "pair"))


class ValuesThatAreNoTools(ToolCase):
    def test_any_values(self):
        for m in (1, 2, 12, 60):
            for value in ANY_VALUES:
                error = (None, "tool")
                if isinstance(value, tuple) and value:
                    error = (0, "pair")
                self.check(m, value, error)

    def test_any_values_as_items(self):
        for value in ANY_VALUES:
            if value != (0, 0):
                self.check(12, (value,), (0, "pair"))
                self.check(12, (value,) + T[1:], (0, "pair"))
                self.check(12, T[:2] + (value,), (2, "pair"))

    def test_any_values_as_places(self):
        for value in ANY_VALUES:
            if value is True or value is False or value not in (0, 1):
                self.check(12, ((value, 2),) + T[1:], (0, "pair"))
                self.check(12, ((0, value),) + T[1:], (0, "pair"))
                self.check(12, T[:2] + ((9, value),), (2, "pair"))

    def test_lists_in_the_place_of_tuples(self):
        self.check(12, list(T), (None, "tool"))
        self.check(12, [list(pair) for pair in T], (None, "tool"))
        for index in range(len(T)):
            self.check(12, with_item(T, index, list(T[index])), (index, "pair"))
        self.check(12, T, None)

    def test_pairs_of_other_lengths(self):
        for item in ((), (5,), (5, 6, 7)):
            self.check(12, with_item(T, 1, item), (1, "pair"))

    def test_places_outside_the_circle(self):
        for wrong in (-12, -1, 12, 13, 24, 10 ** 40 - 1, 1 - 10 ** 40):
            for index in range(len(T)):
                self.check(12, with_item(T, index, (wrong, T[index][1])), (index, "pair"))
                self.check(12, with_item(T, index, (T[index][0], wrong)), (index, "pair"))

    def test_bools_are_not_numbers(self):
        for _ in range(3):
            self.check(2, ((0, 1), (1, 0)), None)
            self.check(2, ((False, 1), (1, 0)), (0, "pair"))
            self.check(2, ((0, True), (1, 0)), (0, "pair"))
            self.check(2, ((0, 1), (True, 0)), (1, "pair"))
            self.check(2, ((0, 1), (1, False)), (1, "pair"))
            self.check(2, ((False, True), (True, False)), (0, "pair"))
            self.check(2, ((0, 1), (1, 0)), None)
            self.check(1, ((0, 0),), None)
            self.check(1, ((False, 0),), (0, "pair"))
            self.check(1, ((0, False),), (0, "pair"))
            self.check(1, ((0, 0),), None)

    def test_arguments_do_not_change(self):
        for value in ANY_VALUES + (list(T), [list(pair) for pair in T], (list(T[0]),) + T[1:]):
            before = copy.deepcopy(value)
            first = (is_tool(12, value), tool_error(12, value))
            self.assertEqual((is_tool(12, value), tool_error(12, value)), first)
            self.assertEqual(repr(value), repr(before))

    def test_a_value_that_changes_between_two_calls(self):
        value = ((0, 2), [5, 6])
        self.check(12, value, (1, "pair"))
        inner = [0, 0]
        self.check(12, (inner, (5, 6)), (0, "pair"))
        inner.append(1)
        self.check(12, (inner, (5, 6)), (0, "pair"))


class WhereAToolSendsPlaces(unittest.TestCase):
    def check(self, m, tool):
        for place in range(m):
            self.assertEqual(target_of(m, tool, place), sent_to(m, tool, place), (m, tool, place))

    def test_every_tool_of_small_circles(self):
        for m in range(1, 6):
            for tool in all_tools(m):
                self.check(m, tool)

    def test_larger_circles(self):
        self.check(12, T)
        self.check(12, P)
        self.check(60, LARGE)
        self.check(60, ((0, 59),))
        self.check(60, ((58, 3), (59, 1)))

    def test_places_before_the_first_begin(self):
        self.assertEqual([target_of(6, ((2, 5), (4, 1)), place) for place in range(6)], [1, 1, 5, 5, 1, 1])

    def test_both_ends_of_each_arc(self):
        self.assertEqual([target_of(12, T, place) for place in (0, 4, 5, 8, 9, 11)], [2, 2, 6, 6, 10, 10])

    def test_different_tools_send_places_differently(self):
        for m in range(1, 6):
            tools = all_tools(m)
            tables = {tuple(target_of(m, tool, place) for place in range(m)) for tool in tools}
            self.assertEqual(len(tables), len(tools))

    def test_equal_calls(self):
        for tool in some_tools(6, 50):
            for place in range(6):
                self.assertEqual(target_of(6, tool, place), target_of(6, tool, place))


if __name__ == "__main__":
    unittest.main()
