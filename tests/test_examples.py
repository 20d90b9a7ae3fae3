"""Every example of DOC.md that has landed, as it stands there."""

import unittest

from tests.sessions import names_used, result_of, sessions_of

TOOLS = """
    >>> from blindpush.tools import is_tool
    >>> T = ((0, 2), (5, 6), (9, 10))
    >>> [is_tool(12, T), is_tool(12, ((0, 6), (5, 2), (9, 10))), is_tool(12, ((3, 1),))]
    [True, False, False]

    >>> from blindpush.tools import tool_error
    >>> [tool_error(12, ((0, 2), (5, 2))), tool_error(12, ((4, 2), (4, 12)))]
    [(1, 'target'), (1, 'pair')]

    >>> from blindpush.tools import target_of
    >>> T = ((0, 2), (5, 6), (9, 10))
    >>> [target_of(12, T, 7), target_of(12, T, 11), target_of(12, ((3, 0), (8, 5)), 1)]
    [6, 10, 5]

    >>> from blindpush.tools import push_place
    >>> T = ((0, 2), (5, 6), (9, 10))
    >>> [push_place(12, T, 3, 3), push_place(12, T, -1, 0)]
    [6, 10]

    >>> from blindpush.tools import push_places
    >>> T = ((0, 2), (5, 6), (9, 10))
    >>> push_places(12, T, 0, (0, 4, 5, 11))
    (2, 6, 10)

    >>> from blindpush.tools import after_plan
    >>> T = ((0, 2), (5, 6), (9, 10))
    >>> [after_plan(12, (T,), ((0, 0), (0, 0)), tuple(range(12))), after_plan(12, (T,), (), (3, 4))]
    [(2, 6, 10), (3, 4)]
"""

ARCS = """
    >>> from blindpush.arcs import spread_of
    >>> [spread_of(12, (2, 6)), spread_of(12, (0, 11)), spread_of(3, (0, 1, 2))]
    [5, 2, 3]

    >>> from blindpush.arcs import brought_into
    >>> T = ((0, 2), (5, 6), (9, 10))
    >>> [brought_into(12, T, 2, 5), brought_into(12, T, 7, 3)]
    [(0, 1, 2, 3, 4, 5, 6, 7, 8), ()]

    >>> from blindpush.arcs import width_of
    >>> T = ((0, 2), (5, 6), (9, 10))
    >>> [width_of(12, (T,), 1), width_of(12, (T,), 5), width_of(12, (T,), 9)]
    [5, 9, 12]

    >>> from blindpush.arcs import lengths_of
    >>> T = ((0, 2), (5, 6), (9, 10))
    >>> P = ((0, 1), (4, 5), (8, 9))
    >>> [lengths_of(12, (T,), 1), lengths_of(12, (P,), 1)]
    [(1, 5, 9, 12), (1, 4)]
"""


class Examples(unittest.TestCase):
    def check(self, text, module, names):
        self.assertEqual(names_used(text), {(module, name) for name in names})
        for lines, result in sessions_of(text):
            with self.subTest(line=lines[-1]):
                self.assertEqual(result_of(lines), result)

    def test_section_1(self):
        names = ("is_tool", "tool_error", "target_of", "push_place", "push_places", "after_plan")
        self.check(TOOLS, "tools", names)

    def test_section_2(self):
        self.check(ARCS, "arcs", ("spread_of", "brought_into", "width_of", "lengths_of"))


if __name__ == "__main__":
    unittest.main()
