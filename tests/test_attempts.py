"""Attempts: several edits, all or none, and a watch between them [3] [13]."""

import unittest

from blindpush.benches import Bench
from tests.circles import ANY_VALUES, LONG, P, T
from tests.states import NO_NUMBERS, BenchCase, WatchError, ending, state_of

PUSH = ("push", 0, 0)
LEARN = ("learn", 0, 12)

# Three edits that can be done, and the places that are possible after each of them.
THREE = (("push", 0, 0), ("learn", 0, 7), ("push", 3, 0))
AFTER = ((2, 6, 10), (2, 6), (6, 10))

NO_EDITS = ANY_VALUES + (
    "push", ("push",), ("push", 0), ("push", 0, 0, 0), ["push", 0, 0], ("Push", 0, 0), ("undo", 0, 0),
    ("attempt", 0, 0), ("aim_at", 0, 0), ("add_edit", 0, 0), (None, 0, 0), (True, 0, 0), (0, 0, 0),
    (("push",), 0, 0), (["push"], 0, 0), ({"push": 0}, 0, 0), ("push ", 0, 0), ("", 0, 0),
    (("push", 0, 0),), {"push": (0, 0)}, (0, 0, "push"),
)
TRUE_VALUES = (True, 1, -1, "no", "0", [0], (0,), {"a": None}, ((),))
FALSE_VALUES = (False, None, 0, "", [], (), {})


class Stop(BaseException):
    """One that does not derive from Exception."""


class AttemptCase(BenchCase):
    def begun(self):
        """A bench on which one edit stands."""
        bench = Bench(12, (T, P))
        bench.learn(0, 12)
        return bench


class Batches(AttemptCase):
    def test_lists_and_tuples(self):
        for edits in (THREE, list(THREE)):
            bench = self.begun()
            self.assertEqual(bench.attempt(edits), 3)
            self.assertEqual(bench.edits(), (LEARN,) + THREE)
            self.assertEqual([bench.possible(version=version) for version in (2, 3, 4)], list(AFTER))

    def test_each_edit_is_undone_by_itself(self):
        bench = self.begun()
        bench.attempt(THREE)
        for version in (3, 2, 1):
            self.assertEqual(bench.undo(), version)
            self.assertEqual(bench.edits(), (LEARN,) + THREE[:version - 1])

    def test_empty_batches(self):
        for edits in ((), []):
            bench = self.begun()
            before = state_of(bench)
            calls = []
            self.assertEqual(bench.attempt(edits), 0)
            self.assertEqual(bench.attempt(edits, watch=calls.append), 0)
            self.assertEqual(calls, [])
            self.assertEqual(state_of(bench), before)

    def test_twenty_edits_and_one_more(self):
        for make in (tuple, list):
            bench = self.begun()
            self.assertEqual(bench.attempt(make([PUSH] * 20)), 20)
            self.assertEqual(len(bench), 21)
            self.refuse(bench, "BadEdits()", bench.attempt, make([PUSH] * 21))
            self.refuse(bench, "BadEdits()", bench.attempt, make([None] * 21))

    def test_values_that_are_no_batches(self):
        bench = self.begun()
        for value in ANY_VALUES + ("push", {"push": (0, 0)}):
            if not isinstance(value, (list, tuple)):
                self.refuse(bench, "BadEdits()", bench.attempt, value)

    def test_items_that_are_no_edits(self):
        bench = self.begun()
        for value in NO_EDITS:
            for make in (tuple, list):
                for at in range(3):
                    edits = make([PUSH] * at + [value] + [("push", None, None), None])
                    self.refuse(bench, "BadEdit({})".format(at), bench.attempt, edits)

    def test_bad_edits_come_before_any_edit_is_done(self):
        bench = self.begun()
        calls = []
        self.refuse(bench, "BadEdit(2)", bench.attempt, [PUSH, ("push", None, 0), None], watch=calls.append)
        self.refuse(bench, "BadEdit(19)", bench.attempt, [PUSH] * 19 + [()], watch=calls.append)
        self.assertEqual(calls, [])

    def test_watch_is_passed_by_keyword(self):
        self.assertRaises(TypeError, self.begun().attempt, [], None)


class RejectedEdits(AttemptCase):
    def check(self, edits, index, error):
        bench = self.begun()
        for watch in (None, lambda watched: False):
            self.refuse(bench, "Rejected({})".format(index), bench.attempt, edits, watch=watch)
        # The edits before the one that is rejected can be done, and this one raises the error by itself.
        self.assertEqual(bench.attempt(edits[:index]), index)
        name, left, right = edits[index]
        self.assertRegex(ending(getattr(bench, name), left, right), "^raises " + error)

    def test_each_error_of_edits(self):
        for edit, error in (
            (("push", None, 0), "BadTurn"), (("push", LONG + 1, 0), "BadTurn"), (("push", 0, 2), "NoTool"),
            (("push", 0, True), "NoTool"), (("learn", 12, 1), "NoPlace"), (("learn", "0", 0), "NoPlace"),
            (("learn", 0, 0), "BadLength"), (("learn", 0, 13), "BadLength"), (("learn", 3, 1), "Impossible"),
        ):
            for at in range(1, 4):
                self.check(THREE[:at] + (edit,) + THREE, at, error)
            self.check([PUSH] * 19 + [edit], 19, error)

    def test_any_values_in_an_edit(self):
        for value in NO_NUMBERS:
            for name in ("push", "learn"):
                for edit in ((name, value, 0), (name, 1, value), (name, value, value)):
                    self.check([PUSH, edit, PUSH], 1, "")

    def test_the_first_edit(self):
        self.check([("learn", -1, 1), PUSH], 0, "NoPlace")

    def test_too_many_edits(self):
        bench = self.begun()
        for many in (20, 20, 17):
            bench.attempt([PUSH] * many)
        self.assertEqual(len(bench), 58)
        self.refuse(bench, "Rejected(2)", bench.attempt, [PUSH, PUSH, PUSH])
        self.refuse(bench, "Rejected(2)", bench.attempt, [PUSH, PUSH, ("push", None, None)])
        self.assertEqual(bench.attempt([PUSH, LEARN]), 2)
        self.refuse(bench, "Rejected(0)", bench.attempt, [PUSH])
        self.assertEqual(bench.attempt([]), 0)

    def test_the_edits_before_the_call_stand(self):
        bench = self.begun()
        bench.push(5, 1)
        bench.aim_at(3)
        self.refuse(bench, "Rejected(1)", bench.attempt, [PUSH, ("push", 0, -1)])
        self.assertEqual(bench.edits(), (LEARN, ("push", 5, 1)))
        self.assertEqual(bench.undo(), 1)


class Watches(AttemptCase):
    def test_after_each_edit(self):
        bench = self.begun()
        seen = []

        def watch(watched):
            seen.append((watched is bench, len(watched), watched.possible(), watched.edits()[-1]))

        self.assertEqual(bench.attempt(THREE, watch=watch), 3)
        expected = [(True, at + 2, places, edit) for at, (places, edit) in enumerate(zip(AFTER, THREE))]
        self.assertEqual(seen, expected)

    def test_values_that_count_as_true(self):
        for value in TRUE_VALUES:
            for at in range(1, 4):
                bench = self.begun()
                self.assertEqual(bench.attempt(THREE, watch=lambda watched: value if len(watched) > at else 0), at)
                self.assertEqual(bench.edits(), (LEARN,) + THREE[:at])
                self.assertEqual(bench.possible(), AFTER[at - 1])

    def test_values_that_count_as_false(self):
        for value in FALSE_VALUES:
            bench = self.begun()
            self.assertEqual(bench.attempt(THREE, watch=lambda watched: value), 3)
            self.assertEqual(bench.edits(), (LEARN,) + THREE)

    def test_the_bench_itself_counts_as_true(self):
        bench = self.begun()
        self.assertEqual(bench.attempt(THREE, watch=lambda watched: watched), 1)

    def test_edits_behind_the_end_are_not_done(self):
        bench = self.begun()
        self.assertEqual(bench.attempt([PUSH, ("push", None, None)], watch=lambda watched: True), 1)
        self.refuse(bench, "BadEdit(1)", bench.attempt, [PUSH, None], watch=lambda watched: True)

    def test_no_watch_for_an_edit_that_is_rejected(self):
        bench = self.begun()
        calls = []
        self.refuse(bench, "Rejected(1)", bench.attempt, [PUSH, ("push", 0, 5)], watch=calls.append)
        self.assertEqual(len(calls), 1)

    def test_exceptions(self):
        errors = (WatchError("no"), ValueError("no"), KeyError(3), StopIteration(), Stop("no"), KeyboardInterrupt())
        for error in errors:
            for at in range(3):
                bench = self.begun()
                before = state_of(bench)

                def watch(watched):
                    if len(watched) == at + 2:
                        raise error

                with self.assertRaises(error.__class__) as caught:
                    bench.attempt(THREE, watch=watch)
                self.assertIs(caught.exception, error)
                self.assertEqual(state_of(bench), before)
                # The bench is no longer watched.
                self.assertEqual([bench.push(0, 0), bench.undo(), bench.attempt(THREE)], [2, 1, 3])

    def test_exceptions_of_the_package(self):
        def watch(watched):
            watched.remaining(0)

        bench = self.begun()
        self.refuse(bench, "BadLength(0)", bench.attempt, THREE, watch=watch)
        self.refuse(bench, "NoVersion(9)", bench.attempt, THREE, watch=lambda watched: watched.possible(version=9))
        self.refuse(bench, "Busy()", bench.attempt, THREE, watch=lambda watched: watched.push(0, 0))
        self.assertEqual(bench.attempt(THREE), 3)

    def test_a_truth_that_raises_an_exception(self):
        class Unclear:
            def __bool__(self):
                raise WatchError("neither")

        bench = self.begun()
        before = state_of(bench)
        self.assertRaises(WatchError, bench.attempt, THREE, watch=lambda watched: Unclear())
        self.assertEqual(state_of(bench), before)
        self.assertEqual(bench.push(0, 0), 2)


class BusyBenches(AttemptCase):
    def test_edits_while_watch_runs(self):
        bench = self.begun()
        seen = []

        def watch(watched):
            before = state_of(watched)
            for function, args in (
                (watched.push, (0, 0)), (watched.push, (None, 9)), (watched.learn, (0, 12)), (watched.learn, (99, 0)),
                (watched.undo, ()), (watched.attempt, ([],)), (watched.attempt, ([PUSH],)), (watched.attempt, (None,)),
                (watched.attempt, ([None],)), (watched.aim_at, (1,)), (watched.aim_at, (5,)), (watched.aim_at, (None,)),
            ):
                seen.append(ending(function, *args))
            self.assertEqual(state_of(watched), before)

        self.assertEqual(bench.attempt(THREE, watch=watch), 3)
        self.assertEqual(seen, ["raises Busy()"] * 36)
        self.assertEqual(bench.edits(), (LEARN,) + THREE)
        self.assertEqual([bench.goal, bench.aim_at(5), bench.undo()], [1, 0, 3])

    def test_busy_comes_before_too_many_edits_and_nothing_to_undo(self):
        bench = self.begun()
        for many in (20, 20, 18):
            bench.attempt([PUSH] * many)
        seen = []
        bench.attempt([PUSH], watch=lambda watched: seen.append(ending(watched.push, 0, 0)))
        self.assertEqual(seen, ["raises Busy()"])
        self.assertEqual(ending(bench.push, 0, 0), "raises TooManyEdits()")

    def test_a_nested_attempt_leaves_it_busy(self):
        bench = self.begun()
        seen = []

        def watch(watched):
            seen.append(ending(watched.attempt, THREE, watch=lambda inner: seen.append("inner")))
            seen.append(ending(watched.push, 0, 0))

        self.assertEqual(bench.attempt([PUSH], watch=watch), 1)
        self.assertEqual(seen, ["raises Busy()", "raises Busy()"])
        self.assertEqual(bench.edits(), (LEARN, PUSH))

    def test_queries_see_the_edits_done_so_far(self):
        bench = self.begun()
        bench.aim_at(5)
        seen = []

        def watch(watched):
            other = Bench(12, (T, P))
            other.learn(0, 12)
            for edit in THREE[:len(watched) - 1]:
                getattr(other, edit[0])(*edit[1:])
            other.aim_at(5)
            self.assertEqual(state_of(watched), state_of(other))
            self.assertTrue(watched == other)
            for goal in range(1, 13):
                self.assertEqual(watched.plan(goal), other.plan(goal))
                self.assertEqual(watched.remaining(goal), other.remaining(goal))
                self.assertEqual(list(watched.walk(goal)), list(other.walk(goal)))
            for version in range(len(watched) + 1):
                self.assertEqual(watched.spread(version=version), other.spread(version=version))
            self.assertEqual(ending(watched.possible, version=len(watched) + 1)[:16], "raises NoVersion")
            seen.append(len(watched))

        self.assertEqual(bench.attempt(THREE, watch=watch), 3)
        self.assertEqual(seen, [2, 3, 4])

    def test_other_benches_are_free(self):
        bench, other = self.begun(), self.begun()

        def watch(watched):
            other.attempt([PUSH], watch=lambda inner: ending(watched.push, 0, 0) != "raises Busy()" or inner.plan(1))
            other.aim_at(7)

        self.assertEqual(bench.attempt(THREE, watch=watch), 3)
        self.assertEqual((len(bench), len(other), other.goal), (4, 4, 7))

    def test_the_list_of_edits_changes(self):
        bench = self.begun()
        edits = list(THREE)

        def watch(watched):
            edits.clear()
            edits.extend([None] * 30)

        self.assertEqual(bench.attempt(edits, watch=watch), 3)
        self.assertEqual(bench.edits(), (LEARN,) + THREE)
        edits = [PUSH]
        self.assertEqual(bench.attempt(edits, watch=lambda watched: edits.append(PUSH)), 1)
        self.assertEqual(len(edits), 2)
        edits = [PUSH, PUSH, PUSH]
        self.assertEqual(bench.attempt(edits, watch=lambda watched: edits.pop() and None), 3)
        self.assertEqual(edits, [])

    def test_a_list_that_changes_afterwards(self):
        bench = self.begun()
        edits = list(THREE)
        bench.attempt(edits)
        edits[0] = None
        edits.pop()
        self.assertEqual(bench.edits(), (LEARN,) + THREE)


if __name__ == "__main__":
    unittest.main()
