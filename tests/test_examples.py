"""Every example of DOC.md, as it stands there."""

import unittest

from tests.sessions import names_used, result_of, sessions_of

TOOLS = """
    >>> from blindpush.tools import is_tool
    >>> T = ((0, 2), (5, 6), (9, 10))
    >>> [is_tool(12, T), is_tool(12, ((0, 6), (5, 2), (9, 10))), is_tool(12, ((3, 1),))]
    [True, False, False]

    >>> from blindpush.tools import tool_error
    >>> [tool_error(12, ((0, 2), (5, 2))), tool_error(12, ((4, 2), (4, 12)))]
    [(1, 'target'), (1, 'pair')]

    >>> from blindpush.tools import target_of
    >>> T = ((0, 2), (5, 6), (9, 10))
    >>> [target_of(12, T, 7), target_of(12, T, 11), target_of(12, ((3, 0), (8, 5)), 1)]
    [6, 10, 5]

    >>> from blindpush.tools import push_place
    >>> T = ((0, 2), (5, 6), (9, 10))
    >>> [push_place(12, T, 3, 3), push_place(12, T, -1, 0)]
    [6, 10]

    >>> from blindpush.tools import push_places
    >>> T = ((0, 2), (5, 6), (9, 10))
    >>> push_places(12, T, 0, (0, 4, 5, 11))
    (2, 6, 10)

    >>> from blindpush.tools import after_plan
    >>> T = ((0, 2), (5, 6), (9, 10))
    >>> [after_plan(12, (T,), ((0, 0), (0, 0)), tuple(range(12))), after_plan(12, (T,), (), (3, 4))]
    [(2, 6, 10), (3, 4)]
"""

ARCS = """
    >>> from blindpush.arcs import spread_of
    >>> [spread_of(12, (2, 6)), spread_of(12, (0, 11)), spread_of(3, (0, 1, 2))]
    [5, 2, 3]

    >>> from blindpush.arcs import brought_into
    >>> T = ((0, 2), (5, 6), (9, 10))
    >>> [brought_into(12, T, 2, 5), brought_into(12, T, 7, 3)]
    [(0, 1, 2, 3, 4, 5, 6, 7, 8), ()]

    >>> from blindpush.arcs import width_of
    >>> T = ((0, 2), (5, 6), (9, 10))
    >>> [width_of(12, (T,), 1), width_of(12, (T,), 5), width_of(12, (T,), 9)]
    [5, 9, 12]

    >>> from blindpush.arcs import lengths_of
    >>> T = ((0, 2), (5, 6), (9, 10))
    >>> P = ((0, 1), (4, 5), (8, 9))
    >>> [lengths_of(12, (T,), 1), lengths_of(12, (P,), 1)]
    [(1, 5, 9, 12), (1, 4)]
"""

PLANS = """
    >>> from blindpush.plans import fewest_pushes
    >>> T = ((0, 2), (5, 6), (9, 10))
    >>> P = ((0, 1), (4, 5), (8, 9))
    >>> [fewest_pushes(12, (T,), tuple(range(12)), 1), fewest_pushes(12, (T,), (0, 4), 1), fewest_pushes(12, (P,), tuple(range(12)), 3)]
    [3, 1, None]

    >>> from blindpush.plans import find_plan
    >>> from blindpush.tools import after_plan
    >>> T = ((0, 2), (5, 6), (9, 10))
    >>> len(after_plan(12, (T,), find_plan(12, (T,), tuple(range(12)), 1), tuple(range(12))))
    1

    >>> from blindpush.plans import plan_holds
    >>> T = ((0, 2), (5, 6), (9, 10))
    >>> [plan_holds(12, (T,), tuple(range(12)), 9, ((0, 0),)), plan_holds(12, (T,), tuple(range(12)), 8, ((0, 0),))]
    [True, False]

    >>> from blindpush.plans import fewest_holds
    >>> from blindpush.plans import find_plan
    >>> T = ((0, 2), (5, 6), (9, 10))
    >>> fewest_holds(12, (T,), tuple(range(12)), 1, (find_plan(12, (T,), tuple(range(12)), 1), (1, 5, 9)))
    True

    >>> from blindpush.plans import find_certificate
    >>> P = ((0, 1), (4, 5), (8, 9))
    >>> [find_certificate(12, (P,), tuple(range(12)), 3), find_certificate(12, (P,), (5,), 1)]
    [('never', 4), ('plan', ())]

    >>> from blindpush.plans import certificate_holds
    >>> P = ((0, 1), (4, 5), (8, 9))
    >>> [certificate_holds(12, (P,), tuple(range(12)), 3, ("never", 8)), certificate_holds(12, (P,), tuple(range(12)), 3, ("never", 3))]
    [True, False]
"""

MAPS = """
    >>> from blindpush.maps import period_of
    >>> T = ((0, 2), (5, 6), (9, 10))
    >>> P = ((0, 1), (4, 5), (8, 9))
    >>> [period_of(12, T), period_of(12, P), period_of(2, ((0, 1), (1, 0)))]
    [12, 4, 1]

    >>> from blindpush.maps import common_period
    >>> T = ((0, 2), (5, 6), (9, 10))
    >>> P = ((0, 1), (4, 5), (8, 9))
    >>> [common_period(12, (P,)), common_period(12, (P, T))]
    [4, 12]

    >>> from blindpush.maps import mirrored_tool, turned_tool
    >>> T = ((0, 2), (5, 6), (9, 10))
    >>> [turned_tool(12, T, 5), mirrored_tool(12, T)]
    [((0, 1), (4, 5), (7, 9)), ((1, 2), (4, 6), (8, 10))]

    >>> from blindpush.maps import table_of
    >>> table_of(6, ((1, 0), (4, 3)))
    (3, 0, 0, 0, 3, 3)

    >>> from blindpush.maps import tool_of
    >>> [tool_of(6, (3, 0, 0, 0, 3, 3)), tool_of(4, (0, 2, 1, 3)), tool_of(2, (1, 1))]
    [((1, 0), (4, 3)), None, ((0, 1),)]

    >>> from blindpush.maps import combined
    >>> T = ((0, 2), (5, 6), (9, 10))
    >>> [combined(12, T, 0, T), combined(12, T, 3, T)]
    [((0, 2), (5, 6), (9, 10)), ((0, 6), (5, 10), (9, 2))]

    >>> from blindpush.maps import plan_tool
    >>> T = ((0, 2), (5, 6), (9, 10))
    >>> plan_tool(12, (T,), ((2, 0),))
    ((3, 6), (7, 10), (10, 2))
"""

COSTS = """
    >>> from blindpush.costs import least_cost
    >>> T = ((0, 2), (5, 6), (9, 10))
    >>> P = ((0, 1), (4, 5), (8, 9))
    >>> [least_cost(12, (T, P), (5, 2), tuple(range(12)), 9), least_cost(12, (T, P), (5, 2), tuple(range(12)), 1)]
    [2, 12]

    >>> from blindpush.costs import find_cheap_plan
    >>> P = ((0, 1), (4, 5), (8, 9))
    >>> find_cheap_plan(12, (P,), (2,), tuple(range(12)), 3)
    None

    >>> from blindpush.costs import cost_widths
    >>> T = ((0, 2), (5, 6), (9, 10))
    >>> cost_widths(12, (T,), (2,), 1, 5)
    (1, 1, 5, 5, 9, 9)
"""

COUNTING = """
    >>> from blindpush.counting import count_plans
    >>> [count_plans(2, (((0, 1),),), 1), count_plans(2, (((0, 0), (1, 1)),), 3), count_plans(1, (((0, 0),),), 0)]
    [2, 0, 1]

    >>> from blindpush.counting import count_images
    >>> count_images(4, (((0, 0), (2, 1)),), 1)
    (0, 4, 0, 0)
"""

BENCHES = """
    >>> from blindpush.benches import Bench
    >>> T = ((0, 2), (5, 6), (9, 10))
    >>> str(Bench(12, (T,)))
    '12 places, 1 tools, 12 possible, 0 edits'

    >>> from blindpush.benches import Bench
    >>> T = ((0, 2), (5, 6), (9, 10))
    >>> bench = Bench(12, (T,))
    >>> [bench.push(0, 0), bench.learn(9, 4), bench.possible()]
    [1, 2, (10,)]

    >>> from blindpush.benches import Bench
    >>> T = ((0, 2), (5, 6), (9, 10))
    >>> bench = Bench(12, (T,))
    >>> [bench.push(0, 0), bench.undo(), len(bench.possible())]
    [1, 0, 12]

    >>> from blindpush.benches import Bench
    >>> T = ((0, 2), (5, 6), (9, 10))
    >>> bench = Bench(12, (T,))
    >>> bench.attempt([('push', 0, 0), ('learn', 3, 1)])
    raises Rejected(1)

    >>> from blindpush.benches import Bench
    >>> T = ((0, 2), (5, 6), (9, 10))
    >>> bench = Bench(12, (T,))
    >>> [bench.push(0, 0), bench.possible(), bench.spread(), bench.spread(version=0)]
    [1, (2, 6, 10), 9, 12]

    >>> from blindpush.benches import Bench
    >>> T = ((0, 2), (5, 6), (9, 10))
    >>> bench = Bench(12, (T,))
    >>> [bench.remaining(1), bench.push(0, 0), bench.remaining(1), bench.remaining(12)]
    [3, 1, 2, 0]

    >>> from blindpush.benches import Bench
    >>> P = ((0, 1), (4, 5), (8, 9))
    >>> Bench(12, (P,)).plan(3)
    None

    >>> from blindpush.benches import Bench
    >>> T = ((0, 2), (5, 6), (9, 10))
    >>> bench = Bench(12, (T,))
    >>> [bench.learn(3, 2), bench.edits()]
    [1, (('learn', 3, 2),)]

    >>> from blindpush.benches import Bench
    >>> T = ((0, 2), (5, 6), (9, 10))
    >>> one, other = Bench(12, (T,)), Bench(12, (T, T))
    >>> [len(one), one == other]
    [0, False]

    >>> from blindpush.benches import Bench
    >>> T = ((0, 2), (5, 6), (9, 10))
    >>> bench = Bench(12, (T,))
    >>> [bench.goal, bench.needed, bench.is_known, bench.aim_at(5), bench.goal]
    [1, 3, False, 2, 5]

    >>> from blindpush.benches import Bench
    >>> [Bench.LIMIT, Bench.arc(12, 10, 4)]
    [60, (0, 1, 10, 11)]

    >>> from blindpush.benches import Bench
    >>> bench = Bench.read('12: 0>2 5>6 9>10, 0>1')
    >>> [str(bench), bench.push(0, 1), bench.possible()]
    ['12 places, 2 tools, 12 possible, 0 edits', 1, (1,)]

    >>> from blindpush.benches import Bench
    >>> T = ((0, 2), (5, 6), (9, 10))
    >>> bench = Bench(12, (T,))
    >>> len(list(bench.walk(1)))
    3
"""

BESIDE = """
    >>> from blindpush.benches import Bench, common_places
    >>> T = ((0, 2), (5, 6), (9, 10))
    >>> one, other = Bench(12, (T,)), Bench(12, (T,))
    >>> [one.push(0, 0), other.learn(0, 7), common_places(one, other), common_places(one, other, least=3), common_places()]
    [1, 1, (2, 6), (6,), ()]

    >>> from blindpush.purses import Purse
    >>> purse = Purse(10)
    >>> [purse.pay(4), purse.left, purse.give_back(1), purse.budget]
    [6, 6, 7, 10]

    >>> from blindpush.benches import CostBench
    >>> T = ((0, 2), (5, 6), (9, 10))
    >>> bench = CostBench(12, (T, T), (3, 5), 8)
    >>> [bench.push(0, 1), bench.left, bench.push(0, 0), bench.left, bench.undo(), bench.left]
    [1, 3, 2, 0, 1, 3]
"""

TEXTS = """
    >>> from blindpush.texts import plan_text, tool_text
    >>> T = ((0, 2), (5, 6), (9, 10))
    >>> [tool_text(T), plan_text(((0, 0), (-3, 1))), plan_text(())]
    ['0>2 5>6 9>10', '0:0 -3:1', 'none']

    >>> from blindpush.texts import parse_tool
    >>> parse_tool(12, '0>2 5>2')
    raises BadText(1)

    >>> from blindpush.texts import parse_plan
    >>> parse_plan('0:0 -3:1')
    ((0, 0), (-3, 1))
"""

SHELLS = """
    >>> from blindpush.benches import Bench
    >>> from blindpush.shells import Shell
    >>> Shell(Bench(3, (((0, 1),),))).execute('possible')
    '0 1 2'

    >>> from blindpush.benches import Bench
    >>> from blindpush.shells import Shell
    >>> T = ((0, 2), (5, 6), (9, 10))
    >>> shell = Shell(Bench(12, (T,)))
    >>> [shell.execute('push 0 0'), shell.execute('remaining 1'), shell.execute('learn 3 1'), shell.execute('learn 0 5'), shell.execute('plan 1')]
    ['ok 1', '2', 'error Impossible', 'ok 2', 'none']
"""


class Examples(unittest.TestCase):
    def check(self, text, module, names, beside=()):
        """The sessions show what they should, and import these names of the module and those beside them."""
        self.assertEqual(names_used(text), {(module, name) for name in names} | set(beside))
        for lines, result in sessions_of(text):
            with self.subTest(line=lines[-1]):
                self.assertEqual(result_of(lines), result)

    def test_section_1(self):
        names = ("is_tool", "tool_error", "target_of", "push_place", "push_places", "after_plan")
        self.check(TOOLS, "tools", names)

    def test_section_2(self):
        self.check(ARCS, "arcs", ("spread_of", "brought_into", "width_of", "lengths_of"))

    def test_section_3(self):
        names = ("fewest_pushes", "find_plan", "plan_holds", "fewest_holds", "find_certificate", "certificate_holds")
        self.check(PLANS, "plans", names, beside=[("tools", "after_plan")])

    def test_section_4(self):
        names = ("period_of", "common_period", "turned_tool", "mirrored_tool", "table_of", "tool_of")
        self.check(MAPS, "maps", names + ("combined", "plan_tool"))

    def test_section_5_costs(self):
        self.check(COSTS, "costs", ("least_cost", "find_cheap_plan", "cost_widths"))

    def test_section_5_counting(self):
        self.check(COUNTING, "counting", ("count_plans", "count_images"))

    def test_section_6(self):
        self.check(BENCHES, "benches", ("Bench",))

    def test_section_6_beside(self):
        self.check(BESIDE, "benches", ("Bench", "CostBench", "common_places"), beside=[("purses", "Purse")])

    def test_section_7_texts(self):
        self.check(TEXTS, "texts", ("tool_text", "plan_text", "parse_tool", "parse_plan"))

    def test_section_7_shells(self):
        self.check(SHELLS, "shells", ("Shell",), beside=[("benches", "Bench")])

    def test_how_many_there_are(self):
        texts = (TOOLS, ARCS, PLANS, MAPS, COSTS, COUNTING, BENCHES, BESIDE, TEXTS, SHELLS)
        self.assertEqual([len(sessions_of(text)) for text in texts], [6, 4, 6, 7, 3, 2, 13, 3, 3, 2])


if __name__ == "__main__":
    unittest.main()
