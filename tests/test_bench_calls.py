"""For counting, purses, benches and shells: what [3] says of all calls.

No argument changes, a call that raises an error leaves the state unchanged, and equal calls have equal results.
"""

import copy
import unittest

from blindpush.benches import Bench, CostBench, common_places
from blindpush.counting import count_images, count_plans
from blindpush.purses import Purse
from blindpush.shells import Shell
from tests.circles import ANY_VALUES, LARGE, LONG, P, T, merging_tool
from tests.states import NO_NUMBERS, ending, state_of

NUMBERS = (0, 1, 2, 12, 13, -1, 60, 61, LONG, LONG + 1)
SOME_VALUES = NO_NUMBERS + NUMBERS + ([[0]], {"a": [1]}, (True, 1))
NESTED = [[[[[[[[[[[[[[[[[[[[]]]]]]]]]]]]]]]]]]]]
EDITS = [("push", 0, 0), ("learn", 0, 7), ("push", 3, 1)]
BATCHES = (
    (), [], EDITS, tuple(EDITS), EDITS * 6, EDITS * 7, [list(edit) for edit in EDITS],
    EDITS + [("learn", [0], {"a": 1})], EDITS + [None], [("push", 0, 0), ("push", NESTED, 0)], [("push", True, 0)],
    {"push": EDITS},
) + ANY_VALUES
TEXTS = (
    "12: 0>2 5>6 9>10, 0>1", "12: 0>2 5>2", "12", "push 0 0", "push 0 9", "learn 0 7", "learn 3 1", "undo", "possible",
    "spread", "remaining 1", "remaining 0", "plan 1", "tools", "plan -0",
)

# The methods of each number of arguments.
METHODS = {
    0: ("undo", "edits", "possible", "spread"),
    1: ("remaining", "plan", "aim_at", "attempt", "pay", "give_back"),
    2: ("push", "learn"),
}
ERRORS = {
    "undo": "NothingToUndo", "remaining": "BadLength", "plan": "BadLength", "aim_at": "BadLength",
    "attempt": "BadEdits BadEdit Rejected", "pay": "BadCost OverBudget", "give_back": "BadCost",
    "push": "TooManyEdits BadTurn NoTool OverBudget", "learn": "TooManyEdits NoPlace BadLength Impossible",
}


def plain_bench():
    bench = Bench(12, (T, P))
    bench.push(0, 0)
    bench.learn(0, 7)
    bench.aim_at(2)
    return bench


def paid_bench():
    bench = CostBench(12, (T, P), (3, 5), 15)
    bench.push(0, 1)
    bench.pay(2)
    return bench


def full_bench():
    bench = plain_bench()
    while len(bench) < 60:
        bench.learn(0, 12)
    return bench


BENCHES = (lambda: Bench(12, (T, P)), plain_bench, paid_bench, full_bench)


class BenchCalls(unittest.TestCase):
    def check(self, make, name, *args, **named):
        """Two equal calls on equal benches end alike, change no argument, and, if they raise an error, no bench."""
        bench, other = make(), make()
        before = state_of(bench)
        copied = copy.deepcopy((args, named))
        end = ending(getattr(bench, name), *args, **named)
        self.assertEqual(repr((args, named)), repr(copied))
        self.assertEqual(ending(getattr(other, name), *copied[0], **copied[1]), end)
        self.assertEqual(state_of(other), state_of(bench))
        if end.startswith("raises "):
            self.assertIn(end[7:end.index("(")], ERRORS.get(name, "").split() + ["NoVersion"] * ("version" in named))
            self.assertEqual(state_of(bench), before)

    def names(self, make, many):
        return [name for name in METHODS[many] if hasattr(make(), name)]

    def test_no_argument(self):
        for make in BENCHES:
            for name in self.names(make, 0):
                self.check(make, name)

    def test_one_argument(self):
        for make in BENCHES:
            for name in self.names(make, 1):
                for value in SOME_VALUES + BATCHES + TEXTS:
                    self.check(make, name, value)

    def test_two_arguments(self):
        for make in BENCHES:
            for name in self.names(make, 2):
                for left in SOME_VALUES:
                    for right in SOME_VALUES:
                        self.check(make, name, left, right)

    def test_versions(self):
        for make in BENCHES:
            for value in SOME_VALUES:
                self.check(make, "possible", version=value)
                self.check(make, "spread", version=value)
                for goal in (1, 12, 0, None, True):
                    self.check(make, "remaining", goal, version=value)

    def test_read(self):
        for value in SOME_VALUES + BATCHES + TEXTS:
            copied = copy.deepcopy(value)
            if ending(Bench.read, value).startswith("raises "):
                self.assertRegex(ending(Bench.read, copied), r"^raises BadText\((None|\d)\)$")
                self.assertEqual(ending(Bench.read, copied), ending(Bench.read, value))
            else:
                self.assertTrue(Bench.read(value) == Bench.read(copied))
            self.assertEqual(repr(value), repr(copied))

    def test_creation(self):
        for value in SOME_VALUES + BATCHES + ((T,), (T, P), [T, P], (list(T),), (T, P, T, P, T)):
            for make in (lambda: Bench(value, (T,)), lambda: Bench(12, value), lambda: CostBench(12, (T, P), value, 5),
                         lambda: CostBench(12, (T, P), (1, 2), value), lambda: Purse(value)):
                copied = repr(value)
                first = ending(lambda: repr(vars(make())))
                self.assertEqual(ending(lambda: repr(vars(make()))), first)
                self.assertEqual(repr(value), copied)
                self.assertRegex(first, r"^('|\"|raises Bad(Circle|Tools|Costs|Budget)\()")

    def test_shells(self):
        for make in BENCHES:
            for value in SOME_VALUES + BATCHES + TEXTS:
                bench, copied = make(), copy.deepcopy(value)
                before = state_of(bench)
                answer = Shell(bench).execute(value)
                self.assertEqual(Shell(make()).execute(copied), answer)
                self.assertEqual(repr(value), repr(copied))
                if not answer.startswith("ok "):
                    self.assertEqual(state_of(bench), before)


class OtherCalls(unittest.TestCase):
    def test_counting(self):
        calls = [
            (function, m, tools, pushes) for function in (count_plans, count_images)
            for m, tools in ((1, (((0, 0),),)), (12, (T, P)), (12, (merging_tool(12),)), (13, (T,)), (60, (LARGE,)))
            for pushes in (0, 1, 2, 3, 7, LONG)
        ]
        first = [ending(*call) for call in calls]
        again = [ending(*call) for call in reversed(calls)]
        self.assertEqual(again[::-1], first)

    def test_equal_queries_of_one_bench(self):
        bench, other = plain_bench(), plain_bench()
        for goal in range(1, 13):
            self.assertEqual(bench.plan(goal), bench.plan(goal))
            self.assertEqual(list(bench.walk(goal)), list(bench.walk(goal)))
            self.assertEqual(bench.remaining(goal), bench.remaining(goal))
        for again in range(2):
            self.assertEqual(common_places(bench, other, least=1), (2, 6))
        self.assertEqual(state_of(bench), state_of(plain_bench()))

    def test_results_are_not_the_state(self):
        bench = plain_bench()
        for found in (bench.possible(), bench.edits(), bench.possible(version=0), bench.plan(1)):
            self.assertIs(type(found), tuple)

    def test_benches_do_not_share(self):
        one, other = plain_bench(), plain_bench()
        one.push(1, 1)
        one.aim_at(9)
        self.assertEqual(state_of(other), state_of(plain_bench()))
        one.undo()
        one.undo()
        self.assertEqual(state_of(other), state_of(plain_bench()))


if __name__ == "__main__":
    unittest.main()
