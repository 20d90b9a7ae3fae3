"""Benches as values: texts, equality, arcs, and places that several benches share [14] [15]."""

import unittest

from blindpush.benches import Bench, CostBench, common_places
from blindpush.bounds import MAX_EDITS
from blindpush.texts import tool_text
from tests.circles import ANY_VALUES, LARGE, P, T, all_tools, arc_places, some_tools, turning_tool
from tests.states import BenchCase, ending

ALL = tuple(range(12))
ONE = ((0, 0),)


class Values(BenchCase):
    def test_limit(self):
        self.assertEqual((Bench.LIMIT, CostBench.LIMIT), (MAX_EDITS, MAX_EDITS))
        self.assertEqual(Bench(12, (T,)).LIMIT, 60)
        self.assertIs(type(Bench.LIMIT), int)

    def test_arcs(self):
        for m in (1, 2, 3, 12):
            for begin in range(m):
                for length in range(1, m + 1):
                    expected = tuple(arc_places(m, begin, length))
                    self.assertEqual(Bench.arc(m, begin, length), expected)
                    self.assertEqual(CostBench.arc(m, begin, length), expected)
        self.assertEqual(Bench.arc(60, 59, 60), tuple(range(60)))
        self.assertEqual(Bench.arc(60, 59, 2), (0, 59))
        self.assertEqual(Bench(3, (ONE,)).arc(12, 10, 4), (0, 1, 10, 11))

    def test_length_and_text(self):
        bench = Bench(12, (T, P))
        self.assertEqual(str(bench), "12 places, 2 tools, 12 possible, 0 edits")
        bench.push(0, 0)
        self.assertEqual((len(bench), str(bench)), (1, "12 places, 2 tools, 3 possible, 1 edits"))
        bench.learn(2, 1)
        self.assertEqual((len(bench), str(bench)), (2, "12 places, 2 tools, 1 possible, 2 edits"))
        bench.undo()
        bench.aim_at(5)
        self.assertEqual((len(bench), str(bench)), (1, "12 places, 2 tools, 3 possible, 1 edits"))
        self.assertEqual(str(Bench(1, (ONE,))), "1 places, 1 tools, 1 possible, 0 edits")
        self.assertEqual(str(Bench(60, (LARGE,) * 4)), "60 places, 4 tools, 60 possible, 0 edits")

    def test_the_text_of_a_cost_bench(self):
        bench = CostBench(12, (T, P), (3, 4), 10)
        bench.push(0, 0)
        self.assertEqual((len(bench), str(bench)), (1, "12 places, 2 tools, 3 possible, 1 edits"))


class Equality(BenchCase):
    def check(self, one, other, expected):
        self.assertIs(one == other, expected)
        self.assertIs(other == one, expected)
        self.assertIs(one != other, not expected)
        self.assertIs(other != one, not expected)

    def test_circle_and_tools(self):
        self.check(Bench(12, (T,)), Bench(12, (T,)), True)
        self.check(Bench(12, (T, P)), Bench(12, (T, P)), True)
        for other in (Bench(11, (T,)), Bench(13, (T,)), Bench(12, (P,)), Bench(12, (T, T)), Bench(12, (T, P))):
            self.check(Bench(12, (T,)), other, False)
        self.check(Bench(12, (T, P)), Bench(12, (P, T)), False)

    def test_possible_places(self):
        one, other = Bench(12, (T,)), Bench(12, (T,))
        one.push(0, 0)
        self.check(one, other, False)
        other.push(12, 0)
        self.check(one, other, True)
        other.learn(0, 12)
        self.check(one, other, True)
        other.learn(0, 7)
        self.check(one, other, False)
        other.undo()
        self.check(one, other, True)

    def test_equal_numbers_of_places_are_not_enough(self):
        one, other = Bench(12, (T,)), Bench(12, (T,))
        one.learn(2, 3)
        other.learn(3, 3)
        self.check(one, other, False)
        # The same possible places on another circle.
        other = Bench(11, (T,))
        other.learn(2, 3)
        self.check(one, other, False)

    def test_edits_and_goals_do_not_matter(self):
        one, other = Bench(12, (T,)), Bench(12, (T,))
        one.learn(0, 12)
        one.aim_at(7)
        self.check(one, other, True)
        self.assertTrue(one == one)

    def test_anything_else(self):
        bench = Bench(12, (T,))
        values = ANY_VALUES + (12, (12, (T,), ALL), str(bench), [bench], (bench,), Bench, object(), bench.possible())
        for value in values:
            self.check(bench, value, False)
            self.check(CostBench(12, (T,), (1,), 5), value, False)

    def test_cost_benches(self):
        self.check(CostBench(12, (T, P), (3, 4), 9), CostBench(12, (T, P), (3, 4), 9), True)
        for other in (
            CostBench(12, (T, P), (3, 5), 9), CostBench(12, (T, P), (4, 3), 9), CostBench(12, (T, P), (3, 4), 8),
            CostBench(12, (P, T), (3, 4), 9), CostBench(13, (T, P), (3, 4), 9), CostBench(12, (T,), (3,), 9),
        ):
            self.check(CostBench(12, (T, P), (3, 4), 9), other, False)

    def test_what_is_left(self):
        one, other = CostBench(12, (T,), (3,), 9), CostBench(12, (T,), (3,), 9)
        one.pay(2)
        self.check(one, other, False)
        other.pay(2)
        self.check(one, other, True)
        one.push(0, 0)
        self.check(one, other, False)
        other.push(24, 0)
        self.check(one, other, True)
        other.push(0, 0)
        self.check(one, other, False)
        other.give_back(3)
        self.check(one, other, True)
        # The same rest of another budget.
        one, other = CostBench(12, (T,), (3,), 9), CostBench(12, (T,), (3,), 8)
        one.pay(1)
        self.check(one, other, False)

    def test_possible_places_of_cost_benches(self):
        one, other = CostBench(12, (T,), (3,), 9), CostBench(12, (T,), (3,), 9)
        one.learn(0, 11)
        self.check(one, other, False)
        other.learn(0, 11)
        one.aim_at(5)
        self.check(one, other, True)

    def test_one_of_each(self):
        for tools, costs in (((T,), (3,)), ((T, P), (1, 1))):
            for budget in (0, 10):
                self.check(Bench(12, tools), CostBench(12, tools, costs, budget), False)


class Reading(BenchCase):
    def refuse_text(self, value, index):
        self.assertEqual(ending(Bench.read, value), "raises BadText({})".format(index))

    def test_texts_of_benches(self):
        small = tuple(some_tools(2, 4)[:4])
        for m, tools in ((1, (ONE,)), (2, small), (12, (T, P)), (12, (T,) * 4), (60, (LARGE, ONE))):
            bench = Bench.read("{}: {}".format(m, ", ".join(tool_text(tool) for tool in tools)))
            self.assertIs(type(bench), Bench)
            self.assertEqual((bench.m, bench.tools), (m, tools))
            self.check_new(bench, m)
            self.assertTrue(bench == Bench(m, tools))

    def check_new(self, bench, m):
        self.assertEqual((len(bench), bench.possible(), bench.goal), (0, tuple(range(m)), 1))

    def test_every_small_tool(self):
        for tool in all_tools(3):
            self.assertEqual(Bench.read("3: " + tool_text(tool)).tools, (tool,))

    def test_new_benches(self):
        one, other = Bench.read("12: 0>1"), Bench.read("12: 0>1")
        one.push(0, 0)
        self.assertEqual((len(one), len(other)), (1, 0))

    def test_values_that_are_no_texts(self):
        for value in ANY_VALUES + (["12: 0>1"], ("12: 0>1",), 12, {"12": "0>1"}, (12, (T,))):
            if not isinstance(value, str):
                self.refuse_text(value, None)

    def test_without_a_colon_and_a_space(self):
        for text in ("", "12", "12:", "12:0>1", "12 0>1", "12 :0>1", "0>1", ":", " ", "\n", "12:\n0>1"):
            self.refuse_text(text, 0)

    def test_wrong_numbers_of_places(self):
        heads = (
            "0", "61", "012", "00", "-1", "+12", "-0", " 12", "12 ", "12:", "1_2", "1.0", "", "a", "\n12", "12\n",
            "9" * 40, "9" * 1900, "0x1", "True", "None", "12, 0>1", "12,",
        )
        for head in heads:
            for rest in ("0>1", "", "tool", "0>1, 0>2, 0>3, 0>4, 0>5"):
                self.refuse_text(head + ": " + rest, 0)

    def test_the_least_and_the_greatest_circle(self):
        self.assertEqual(Bench.read("1: 0>0").m, 1)
        self.assertEqual(Bench.read("60: 0>59").m, 60)

    def test_no_tool(self):
        for text in ("12: ", "12:  ", "12: ,", "12: , ", "12: , 0>1", "12: \n"):
            self.refuse_text(text, 1)

    def test_five_tools(self):
        self.assertEqual(len(Bench.read("12: 0>1, 0>2, 0>3, 0>4").tools), 4)
        self.refuse_text("12: 0>1, 0>2, 0>3, 0>4, 0>5", 5)
        self.refuse_text("12: 0>1, 0>2, 0>3, 0>4, ", 5)
        self.refuse_text("12: 0>1, 0>2, 0>3, 0>4, tool, 0>5", 5)
        self.refuse_text("12: 0>1, 0>2, 0>3, tool, 0>5, 0>6", 4)

    def test_parts_that_are_no_tools(self):
        parts = (
            "", " ", "0", "0>", ">1", "0>12", "3>1", "0>1 ", " 0>1", "0>2  5>6", "0>2 5>2", "5>6 0>2", "0>01", "0>-1",
            "tool", "0>1,0>2", "0>1\n", "0>+1", "0:1", "0>1: 0>1", ": 0>1", "0>1 0>2", "0>1>2",
        )
        for part in parts:
            self.refuse_text("12: " + part, 1)
            self.refuse_text("12: " + part + ", 0>1", 1)
            self.refuse_text("12: 0>1, " + part, 2)
            self.refuse_text("12: 0>1, 0>2, 0>3, " + part + ", tool", 4)

    def test_a_tool_of_another_circle(self):
        self.refuse_text("10: 0>1, " + tool_text(T), 2)
        self.assertEqual(Bench.read("11: 0>1, " + tool_text(T)).tools, (((0, 1),), T))
        self.refuse_text("13: " + " ".join("{0}>{0}".format(place) for place in range(13)), 1)

    def test_several_colons(self):
        self.refuse_text("12: 0>1: 0>2", 1)
        self.refuse_text("12: 12: 0>1", 1)
        self.refuse_text("12: 0>1, 12: 0>1", 2)
        self.refuse_text(": 12: 0>1", 0)
        self.refuse_text("12:: 0>1", 0)


class CommonPlaces(BenchCase):
    def bench_of(self, m, begin, length):
        bench = Bench(m, (ONE,))
        bench.learn(begin, length)
        return bench

    def test_no_bench(self):
        self.assertEqual(common_places(), ())
        self.assertEqual(common_places(least=5), ())

    def test_one_bench(self):
        bench = self.bench_of(12, 9, 7)
        self.assertEqual(common_places(bench), (0, 1, 2, 3, 9, 10, 11))
        self.assertEqual(common_places(Bench(60, (LARGE,))), tuple(range(60)))

    def test_several_benches(self):
        benches = [self.bench_of(12, 9, 7), self.bench_of(12, 2, 9), Bench(12, (T, P)), self.bench_of(12, 10, 6)]
        self.assertEqual(common_places(*benches[:2]), (2, 3, 9, 10))
        self.assertEqual(common_places(*benches), (2, 3, 10))
        self.assertEqual(common_places(*reversed(benches)), (2, 3, 10))
        self.assertEqual(common_places(benches[0], benches[0]), (0, 1, 2, 3, 9, 10, 11))
        self.assertEqual(common_places(*benches, self.bench_of(12, 4, 5)), ())

    def test_by_sets(self):
        benches = [self.bench_of(7, begin, length) for begin in range(7) for length in (2, 4, 5)]
        for one in benches:
            for other in benches:
                for least in (-1, 0, 1, 3, 6, 7):
                    both = set(one.possible()) & set(other.possible())
                    expected = tuple(sorted(place for place in both if place >= least))
                    self.assertEqual(common_places(one, other, least=least), expected)

    def test_least(self):
        bench = self.bench_of(12, 9, 7)
        for least, expected in ((-5, (0, 1, 2, 3, 9, 10, 11)), (1, (1, 2, 3, 9, 10, 11)), (4, (9, 10, 11)), (11, (11,)),
                                (12, ()), (10 ** 30, ())):
            self.assertEqual(common_places(bench, least=least), expected)
            self.assertEqual(common_places(bench, Bench(12, (T,)), least=least), expected)

    def test_different_circles(self):
        small, large = Bench(11, (T,)), Bench(12, (T,))
        for benches, index in (
            ((small, large), 1), ((large, small), 1), ((large, large, small), 2), ((large, small, small), 1),
            ((large, large, large, small, Bench(13, (ONE,))), 3),
        ):
            for least in (0, 20):
                self.assertEqual(ending(common_places, *benches, least=least), "raises NotAlike({})".format(index))

    def test_tools_do_not_matter(self):
        self.assertEqual(common_places(Bench(12, (T,)), Bench(12, (P, turning_tool(12)))), ALL)
        self.assertEqual(common_places(CostBench(12, (T,), (1,), 0), self.bench_of(12, 3, 2)), (3, 4))

    def test_the_benches_do_not_change(self):
        one, other = self.bench_of(12, 9, 7), self.bench_of(12, 2, 9)
        common_places(one, other, least=3)
        self.assertEqual((one.edits(), other.edits()), ((("learn", 9, 7),), (("learn", 2, 9),)))
        self.assertEqual(one.possible(), (0, 1, 2, 3, 9, 10, 11))


if __name__ == "__main__":
    unittest.main()
