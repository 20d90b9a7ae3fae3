"""Benches on which pushes are paid [3] [15]."""

import unittest

from blindpush.benches import Bench, CostBench
from blindpush.errors import BadBudget, BadCircle, BadCost, BadCosts
from blindpush.purses import Purse
from tests.circles import ANY_VALUES, LARGE, P, T
from tests.states import NO_NUMBERS, BenchCase, WatchError, ending, state_of

ONE = ((0, 0),)
WRONG_COSTS = ANY_VALUES + (
    (), (3,), (3, 4, 5), [3, 4], (0, 4), (3, 0), (3, -1), (101, 4), (3, 101), (True, 4), (3, True), (3, None), (3, "4"),
    (3, [4]), ((3,), 4), {"a": 3, "b": 4}, "34", (3, 10 ** 30),
)


def new_bench(budget=20):
    """A bench with a tool for 3 and one for 5."""
    return CostBench(12, (T, P), (3, 5), budget)


class Creation(BenchCase):
    def test_it_is_a_bench_and_a_purse(self):
        bench = new_bench()
        self.assertIsInstance(bench, Bench)
        self.assertIsInstance(bench, Purse)
        self.assertEqual((bench.budget, bench.left, len(bench), bench.goal, bench.needed), (20, 20, 0, 1, 3))

    def test_the_limits(self):
        for costs in ((1,), (100,)):
            for budget in (0, 10000):
                bench = CostBench(1, (ONE,), costs, budget)
                self.assertEqual((bench.budget, bench.left), (budget, budget))
        self.assertEqual(CostBench(60, (LARGE,) * 4, (1, 2, 3, 100), 5).left, 5)

    def test_wrong_costs(self):
        for value in WRONG_COSTS:
            for budget in (20, -1, None):
                with self.assertRaises(BadCosts) as caught:
                    CostBench(12, (T, P), value, budget)
                self.assertIs(caught.exception.value, value)

    def test_wrong_budgets(self):
        for value in NO_NUMBERS + (-1, 10001, 10 ** 40 - 1):
            with self.assertRaises(BadBudget) as caught:
                CostBench(12, (T, P), (3, 5), value)
            self.assertIs(caught.exception.value, value)

    def test_which_error_comes_first(self):
        self.assertEqual(ending(CostBench, 0, None, None, None), "raises BadCircle(0)")
        self.assertEqual(ending(CostBench, True, (T,), (3,), 20), "raises BadCircle(True)")
        self.assertEqual(ending(CostBench, 12, None, None, None), "raises BadTools(None)")
        self.assertEqual(ending(CostBench, 12, (T,) * 5, (3,) * 5, None), "raises BadTools(None)")
        self.assertEqual(ending(CostBench, 12, (T, None), None, None), "raises BadTools(1)")
        self.assertEqual(ending(CostBench, 12, (T, P), None, None), "raises BadCosts(None)")
        self.assertEqual(ending(CostBench, 12, (T, P), (3,), -1), "raises BadCosts((3,))")
        self.assertEqual(ending(CostBench, 12, (T, P), (3, 5), None), "raises BadBudget(None)")
        for value in NO_NUMBERS + (0, 61):
            with self.assertRaises(BadCircle) as caught:
                CostBench(value, value, value, value)
            self.assertIs(caught.exception.value, value)


class Pushes(BenchCase):
    def test_a_push_pays(self):
        bench = new_bench()
        self.assertEqual([bench.push(0, 0), bench.left, bench.push(7, 1), bench.left], [1, 17, 2, 12])
        other = Bench(12, (T, P))
        other.push(0, 0)
        other.push(7, 1)
        self.assertEqual((bench.possible(), bench.edits()), (other.possible(), other.edits()))
        self.assertEqual((bench.remaining(1), bench.plan(1)), (other.remaining(1), other.plan(1)))

    def test_learn_costs_nothing(self):
        bench = new_bench(0)
        self.assertEqual([bench.learn(0, 5), bench.left, bench.possible()], [1, 0, (0, 1, 2, 3, 4)])
        self.assertEqual([bench.undo(), bench.left], [0, 0])

    def test_exactly_what_is_left_and_one_more(self):
        bench = new_bench(8)
        self.assertEqual([bench.push(0, 0), bench.push(0, 1), bench.left], [1, 2, 0])
        self.refuse(bench, "OverBudget(0)", bench.push, 0, 0)
        bench = new_bench(7)
        bench.push(0, 0)
        self.refuse(bench, "OverBudget(4)", bench.push, 0, 1)
        self.assertEqual([bench.push(0, 0), bench.left], [2, 1])
        self.refuse(bench, "OverBudget(1)", bench.push, 0, 0)

    def test_other_errors_come_first(self):
        bench = new_bench(2)
        self.refuse(bench, "BadTurn(None)", bench.push, None, 0)
        self.refuse(bench, "NoTool(2)", bench.push, 0, 2)
        self.refuse(bench, "NoTool(True)", bench.push, 0, True)
        self.refuse(bench, "OverBudget(2)", bench.push, 0, 0)
        for step in range(60):
            bench.learn(0, 12)
        self.refuse(bench, "TooManyEdits()", bench.push, 0, 0)
        self.refuse(bench, "TooManyEdits()", bench.push, None, 9)

    def test_a_push_that_is_not_done_costs_nothing(self):
        bench = new_bench(20)
        for args in ((None, 0), (0, 2), (0, True), (10 ** 30, 0)):
            ending(bench.push, *args)
            self.assertEqual((bench.left, len(bench)), (20, 0))

    def test_errors_of_the_other_methods(self):
        bench = new_bench()
        bench.push(0, 0)
        self.refuse(bench, "Impossible()", bench.learn, 3, 1)
        self.refuse(bench, "NoPlace(12)", bench.learn, 12, 0)
        self.refuse(bench, "BadLength(0)", bench.learn, 0, 0)
        self.refuse(bench, "NoVersion(2)", bench.possible, version=2)
        self.refuse(bench, "BadLength(13)", bench.aim_at, 13)


class Undos(BenchCase):
    def test_undo_gives_back(self):
        bench = new_bench()
        bench.push(0, 1)
        bench.learn(0, 12)
        bench.push(0, 0)
        lefts = [bench.left]
        for version in (2, 1, 0):
            self.assertEqual(bench.undo(), version)
            lefts.append(bench.left)
        self.assertEqual(lefts, [12, 15, 15, 20])
        self.refuse(bench, "NothingToUndo()", bench.undo)
        self.assertEqual(bench.left, 20)

    def test_at_most_what_is_spent(self):
        for given, left in ((0, 20), (1, 20), (4, 20), (5, 20)):
            bench = new_bench()
            bench.push(0, 1)
            bench.give_back(given)
            self.assertEqual(bench.left, 15 + given)
            self.assertEqual([bench.undo(), bench.left], [0, left])
            self.assertEqual(bench.push(0, 0), 1)
            self.assertEqual(bench.left, 17)

    def test_with_other_payments(self):
        bench = new_bench()
        bench.push(0, 1)
        bench.pay(4)
        self.assertEqual([bench.undo(), bench.left], [0, 16])
        bench.push(0, 0)
        bench.push(0, 1)
        bench.give_back(9)
        self.assertEqual([bench.left, bench.undo(), bench.left, bench.undo(), bench.left], [17, 1, 20, 0, 20])

    def test_payments_are_no_edits(self):
        bench = new_bench()
        self.assertEqual([bench.pay(4), bench.give_back(1), len(bench), bench.edits()], [16, 17, 0, ()])
        self.refuse(bench, "NothingToUndo()", bench.undo)

    def test_wrong_payments(self):
        bench = new_bench()
        bench.push(0, 0)
        for value in NO_NUMBERS + (-1,):
            self.refuse_value(bench, BadCost, bench.pay, value)
            self.refuse_value(bench, BadCost, bench.give_back, value)
        self.refuse_value(bench, BadCost, bench.give_back, 4)
        self.refuse(bench, "OverBudget(17)", bench.pay, 18)
        self.assertEqual([bench.pay(17), bench.give_back(20)], [0, 20])


class Attempts(BenchCase):
    def test_pushes_of_an_attempt_are_paid(self):
        bench = new_bench()
        self.assertEqual(bench.attempt([("push", 0, 0), ("learn", 0, 12), ("push", 0, 1)]), 3)
        self.assertEqual([bench.left, bench.undo(), bench.left], [12, 2, 17])

    def test_over_budget_is_an_error_of_edits(self):
        bench = new_bench(10)
        bench.pay(1)
        edits = [("push", 0, 0), ("push", 0, 1), ("push", 0, 0)]
        self.refuse(bench, "Rejected(2)", bench.attempt, edits)
        self.assertEqual(bench.left, 9)
        self.assertEqual([bench.attempt(edits[:2]), bench.left], [2, 1])

    def test_each_error_gives_back(self):
        for edit in (("push", None, 0), ("push", 0, 2), ("learn", 12, 1), ("learn", 0, 0), ("learn", 3, 1)):
            bench = new_bench()
            bench.push(0, 1)
            self.refuse(bench, "Rejected(2)", bench.attempt, [("push", 0, 0), ("push", 0, 0), edit])
            self.assertEqual(bench.left, 15)

    def test_values_that_are_no_batches(self):
        bench = new_bench()
        bench.push(0, 1)
        self.refuse(bench, "BadEdits()", bench.attempt, None)
        self.refuse(bench, "BadEdits()", bench.attempt, [("push", 0, 0)] * 21)
        self.refuse(bench, "BadEdit(1)", bench.attempt, [("push", 0, 0), None])
        self.assertEqual([bench.attempt([]), bench.left], [0, 15])

    def test_watch_raises_an_exception(self):
        def watch(watched):
            if len(watched) == 3:
                raise WatchError("no")

        bench = new_bench()
        bench.push(0, 1)
        before = state_of(bench)
        self.assertRaises(WatchError, bench.attempt, [("push", 0, 0)] * 4, watch=watch)
        self.assertEqual(state_of(bench), before)
        self.assertEqual([bench.push(0, 0), bench.left], [2, 12])

    def test_watch_ends_the_attempt(self):
        bench = new_bench()
        self.assertEqual(bench.attempt([("push", 0, 0)] * 4, watch=lambda watched: watched.left < 15), 2)
        self.assertEqual([bench.left, len(bench)], [14, 2])

    def test_watch_pays_and_gives_back(self):
        seen = []

        def watch(watched):
            seen.append((watched.pay(4), watched.give_back(1), watched.left))

        bench = new_bench()
        self.assertEqual(bench.attempt([("push", 0, 0), ("push", 0, 1)], watch=watch), 2)
        self.assertEqual(seen, [(13, 14, 14), (5, 6, 6)])
        self.assertEqual((bench.left, len(bench)), (6, 2))
        self.assertEqual([bench.undo(), bench.left, bench.undo(), bench.left], [1, 11, 0, 14])

    def test_what_watch_paid_comes_back_too(self):
        def paying(watched):
            watched.pay(2)

        def giving(watched):
            watched.give_back(7)

        def failing(watched):
            watched.give_back(6)
            watched.pay(1)
            raise WatchError("no")

        edits = [("push", 0, 0), ("push", 0, 1), ("push", 0, 2)]
        for watch, error in ((paying, "Rejected"), (giving, "Rejected"), (failing, "WatchError")):
            bench = new_bench()
            bench.push(0, 1)
            bench.pay(2)
            before = state_of(bench)
            with self.assertRaises(Exception) as caught:
                bench.attempt(edits, watch=watch)
            self.assertEqual(caught.exception.__class__.__name__, error)
            self.assertEqual((state_of(bench), bench.left), (before, 13))
            self.assertEqual(bench.attempt(edits[:2]), 2)
            self.assertEqual(bench.left, 5)

    def test_watch_leaves_too_little(self):
        bench = new_bench()
        edits = [("push", 0, 0)] * 2
        self.refuse(bench, "Rejected(1)", bench.attempt, edits, watch=lambda watched: watched.pay(15) > 2)
        self.assertEqual(bench.left, 20)

    def test_busy(self):
        seen = []

        def watch(watched):
            before = state_of(watched)
            for function, args in (
                (watched.push, (0, 0)), (watched.push, (None, 7)), (watched.learn, (0, 12)), (watched.undo, ()),
                (watched.attempt, ([("push", 0, 0)],)), (watched.attempt, (None,)), (watched.aim_at, (0,)),
            ):
                seen.append(ending(function, *args))
            self.assertEqual(state_of(watched), before)

        bench = new_bench()
        self.assertEqual(bench.attempt([("push", 0, 0)] * 2, watch=watch), 2)
        self.assertEqual(seen, ["raises Busy()"] * 14)
        self.assertEqual((bench.left, len(bench)), (14, 2))

    def test_a_busy_attempt_keeps_what_watch_paid(self):
        def watch(watched):
            watched.pay(4)
            ending(watched.attempt, [("push", 0, 0)])

        bench = new_bench()
        self.assertEqual([bench.attempt([("push", 0, 0)], watch=watch), bench.left], [1, 13])

    def test_wrong_payments_while_watch_runs(self):
        seen = []

        def watch(watched):
            seen.extend([ending(watched.pay, 18), ending(watched.pay, True), ending(watched.give_back, 4)])

        bench = new_bench()
        bench.attempt([("push", 0, 0)], watch=watch)
        self.assertEqual(seen, ["raises OverBudget(17)", "raises BadCost(True)", "raises BadCost(4)"])
        self.assertEqual(bench.left, 17)


class Histories(BenchCase):
    def test_the_queries_are_those_of_a_bench(self):
        bench, other = new_bench(10000), Bench(12, (T, P))
        for edit in (("push", 3, 1), ("learn", 2, 9), ("push", -5, 0), ("learn", 9, 6)):
            for one in (bench, other):
                getattr(one, edit[0])(*edit[1:])
            self.assertEqual(bench.edits(), other.edits())
            self.assertEqual(bench.spread(), other.spread())
            self.assertEqual((bench.needed, bench.is_known), (other.needed, other.is_known))
            for goal in range(1, 13):
                self.assertEqual(bench.plan(goal), other.plan(goal))
                self.assertEqual(list(bench.walk(goal)), list(other.walk(goal)))
                for version in range(len(bench) + 1):
                    self.assertEqual(bench.remaining(goal, version=version), other.remaining(goal, version=version))

    def test_sixty_pushes(self):
        bench = CostBench(12, (T,), (100,), 10000)
        for version in range(1, 61):
            self.assertEqual((bench.push(version, 0), bench.left), (version, 10000 - 100 * version))
        self.refuse(bench, "TooManyEdits()", bench.push, 0, 0)
        while len(bench) > 0:
            bench.undo()
        self.assertEqual(bench.left, 10000)


if __name__ == "__main__":
    unittest.main()
