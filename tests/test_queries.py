"""What benches answer: places, spreads, plans, goals and walks [2] (f) [13] [14]."""

import unittest
from random import Random

from blindpush.arcs import spread_of
from blindpush.benches import Bench
from blindpush.errors import BadLength
from blindpush.plans import fewest_pushes, find_plan, plan_holds
from blindpush.tools import after_plan
from tests.circles import (
    LARGE, LONG, P, T, arc_places, least_by_search, merging_tool, place_sets, pushed, some_tools, spread_by_search,
    turning_tool,
)
from tests.states import NO_NUMBERS, BenchCase

ALL = tuple(range(12))
ONE = ((0, 0),)
WRONG_GOALS = NO_NUMBERS + (-1, 0, 10 ** 40 - 1)


def edited(bench, edit):
    """Do an edit, and return the places that are possible after it in the plainest way, or None if there are none."""
    name, left, right = edit
    if name == "push":
        places = pushed(bench.m, bench.tools, (left, right), bench.possible())
        bench.push(left, right)
        return places
    arc = arc_places(bench.m, left, right)
    places = tuple(place for place in bench.possible() if place in arc)
    if places:
        bench.learn(left, right)
    return places or None


def some_edits(seed, m, tools, many):
    """A row of edits, the same for equal seeds."""
    chosen = Random(seed)
    edits = []
    for step in range(many):
        if chosen.randrange(3):
            edits.append(("push", chosen.randrange(-2 * m, 2 * m), chosen.randrange(len(tools))))
        else:
            edits.append(("learn", chosen.randrange(m), chosen.randrange(1, m + 1)))
    return edits


class Agreement(BenchCase):
    def check_queries(self, bench, tools, places):
        """The bench answers what the functions say of these places."""
        m = bench.m
        self.assertEqual(bench.possible(), places)
        self.assertEqual(bench.spread(), spread_by_search(m, places))
        self.assertEqual(bench.spread(), spread_of(m, places))
        for goal in range(1, m + 1):
            self.assertEqual(bench.remaining(goal), fewest_pushes(m, tools, places, goal))
            self.assertEqual(bench.plan(goal), find_plan(m, tools, places, goal))

    def check_goal(self, bench, tools, places):
        """The attributes agree with these places and the goal."""
        m, goal = bench.m, bench.goal
        self.assertEqual(bench.needed, fewest_pushes(m, tools, places, goal))
        self.assertIs(bench.is_known, spread_by_search(m, places) <= goal)
        self.assertEqual(bench.needed == 0, bench.is_known)

    def check_history(self, seed, m, tools):
        bench = Bench(m, tools)
        chosen = Random(seed)
        states = [tuple(range(m))]
        for edit in some_edits(seed, m, tools, 20):
            places = edited(bench, edit)
            if places is not None:
                states.append(places)
            self.check_goal(bench, tools, states[-1])
            if chosen.randrange(3) == 0 and len(bench) > 0:
                self.assertEqual(bench.undo(), len(bench))
                states.pop()
                self.check_goal(bench, tools, states[-1])
            if chosen.randrange(2) == 0:
                goal = chosen.randrange(1, m + 1)
                self.assertEqual(bench.aim_at(goal), bench.needed)
                self.assertEqual(bench.goal, goal)
                self.check_goal(bench, tools, states[-1])
            self.assertEqual([bench.possible(version=version) for version in range(len(bench) + 1)], states)
        self.check_queries(bench, tools, states[-1])

    def test_histories(self):
        for m, tools in (
            (1, (ONE,)), (2, (((0, 1), (1, 0)), ONE)), (5, tuple(some_tools(5, 4)[:4])), (12, (T,)), (12, (P, T)),
            (12, (turning_tool(12), merging_tool(12), P, T)), (60, (LARGE,)),
        ):
            for seed in range(6 if m < 60 else 2):
                self.check_history(seed, m, tools)

    def test_every_set_of_places(self):
        for m in (3, 4):
            for tools in ((tool,) for tool in some_tools(m, 12)):
                best = {goal: least_by_search(m, tools, (1,), goal) for goal in range(1, m + 1)}
                for bench in self.reached_benches(m, tools):
                    places = bench.possible()
                    self.check_queries(bench, tools, places)
                    for goal in range(1, m + 1):
                        self.assertEqual(bench.remaining(goal), best[goal].get(places))

    def reached_benches(self, m, tools):
        """A bench for each set of possible places that edits can lead to, with the first history that leads there."""
        found = {tuple(range(m)): ()}
        edits = [("push", turn, 0) for turn in range(m)]
        edits += [("learn", begin, length) for begin in range(m) for length in range(1, m + 1)]
        waiting = list(found)
        while waiting:
            before = waiting.pop()
            for edit in edits:
                bench = Bench(m, tools)
                bench.attempt(found[before])
                places = edited(bench, edit)
                if places is not None and places not in found:
                    found[places] = bench.edits()
                    waiting.append(places)
        benches = []
        for places, history in found.items():
            bench = Bench(m, tools)
            bench.attempt(history)
            self.assertEqual(bench.possible(), places)
            benches.append(bench)
        return benches

    def test_different_histories_with_the_same_places(self):
        groups = {}
        for seed in range(60):
            bench = Bench(12, (T, P))
            for edit in some_edits(seed, 12, (T, P), 2 + seed % 5):
                edited(bench, edit)
            groups.setdefault(bench.possible(), []).append(bench)
        alike = [benches for benches in groups.values() if len({bench.edits() for bench in benches}) > 1]
        self.assertGreater(len(alike), 3)
        for benches in alike:
            for other in benches[1:]:
                self.assertEqual(answers(other), answers(benches[0]))
                self.assertTrue(other == benches[0])

    def test_the_way_back_leaves_no_trace(self):
        for seed in range(5):
            bench, other = Bench(12, (T, P)), Bench(12, (T, P))
            for edit in some_edits(seed, 12, (T, P), 4):
                edited(bench, edit)
                edited(other, edit)
            before = answers(bench)
            for edit in some_edits(seed + 100, 12, (T, P), 10):
                edited(bench, edit)
            while len(bench) > len(other):
                bench.undo()
            self.assertEqual(answers(bench), before)
            self.assertEqual(answers(other), before)
            self.assertEqual(bench.edits(), other.edits())


def answers(bench):
    goals = range(1, bench.m + 1)
    plans = [(bench.remaining(goal), bench.plan(goal), list(bench.walk(goal))) for goal in goals]
    return (bench.possible(), bench.spread(), plans)


class Lengths(BenchCase):
    def test_remaining(self):
        bench = Bench(12, (P,))
        self.assertEqual([bench.remaining(goal) for goal in (1, 3, 8, 9, 12)], [None, None, None, 1, 0])

    def test_wrong_goals(self):
        for m, tools in ((1, (ONE,)), (12, (T,)), (12, (P,))):
            bench = Bench(m, tools)
            bench.push(0, 0)
            for value in WRONG_GOALS + (m + 1, m + 2):
                self.refuse_value(bench, BadLength, bench.remaining, value)
                self.refuse_value(bench, BadLength, bench.remaining, value, version=0)
                self.refuse_value(bench, BadLength, bench.plan, value)
                self.refuse_value(bench, BadLength, bench.aim_at, value)

    def test_plans(self):
        bench = Bench(12, (T, P))
        for edit in (("push", 5, 1), ("learn", 0, 8), ("push", 1, 0)):
            edited(bench, edit)
            for goal in range(1, 13):
                plan = bench.plan(goal)
                self.assertTrue(plan_holds(12, (T, P), bench.possible(), goal, plan))
                self.assertEqual(len(plan), bench.remaining(goal))


class Goals(BenchCase):
    def test_in_the_beginning(self):
        for m, tool, needed in ((1, ONE, 0), (2, ONE, 1), (12, T, 3), (12, P, None)):
            bench = Bench(m, (tool,))
            self.assertEqual((bench.goal, bench.needed, bench.is_known), (1, needed, m == 1))
            self.assertIs(type(bench.goal), int)
            self.assertIs(type(bench.is_known), bool)

    def test_aim_at(self):
        bench = Bench(12, (P,))
        for goal, needed in ((8, None), (9, 1), (12, 0), (1, None), (11, 1)):
            self.assertEqual(bench.aim_at(goal), needed)
            self.assertEqual((bench.goal, bench.needed, bench.is_known), (goal, needed, goal == 12))

    def test_it_is_no_edit(self):
        bench = Bench(12, (T,))
        bench.push(0, 0)
        bench.aim_at(7)
        self.assertEqual((len(bench), bench.edits()), (1, (("push", 0, 0),)))
        bench.undo()
        self.assertEqual((bench.goal, bench.needed), (7, 2))
        self.refuse(bench, "NothingToUndo()", bench.undo)

    def test_after_each_edit(self):
        bench = Bench(12, (T,))
        seen = [(bench.needed, bench.is_known)]
        for edit in (("push", 0, 0), ("learn", 0, 7), ("push", 10, 0)):
            edited(bench, edit)
            seen.append((bench.needed, bench.is_known))
        self.assertEqual(seen, [(3, False), (2, False), (1, False), (0, True)])
        for expected in ((1, False), (2, False), (3, False)):
            bench.undo()
            self.assertEqual((bench.needed, bench.is_known), expected)

    def test_after_attempts(self):
        bench = Bench(12, (T,))
        bench.attempt([("push", 0, 0), ("learn", 0, 7)])
        self.assertEqual(bench.needed, 1)
        self.refuse(bench, "Rejected(1)", bench.attempt, [("push", 10, 0), ("push", 0, 1)])
        self.assertEqual((bench.needed, bench.is_known), (1, False))
        self.assertEqual(bench.attempt([("push", 10, 0)]), 1)
        self.assertEqual((bench.needed, bench.is_known), (0, True))

    def test_they_are_only_read(self):
        bench = Bench(12, (T,))
        for name in ("goal", "needed", "is_known"):
            with self.assertRaises(AttributeError):
                setattr(bench, name, 5)
        self.assertEqual((bench.goal, bench.needed, bench.is_known), (1, 3, False))


class Walks(BenchCase):
    def check(self, bench, goal):
        before = repr(answers_without_walks(bench))
        steps = list(bench.walk(goal))
        self.assertEqual(repr(answers_without_walks(bench)), before)
        plan = bench.plan(goal)
        if plan is None:
            self.assertEqual(steps, [])
            return
        self.assertEqual(tuple(push for push, places in steps), plan)
        for at, step in enumerate(steps):
            self.assertIs(type(step), tuple)
            self.assertEqual(step[1], after_plan(bench.m, bench.tools, plan[:at + 1], bench.possible()))
        if steps:
            self.assertLessEqual(spread_of(bench.m, steps[-1][1]), goal)

    def test_against_the_plan(self):
        for m, tools in ((1, (ONE,)), (12, (T,)), (12, (P,)), (12, (P, T)), (12, (merging_tool(12),)), (60, (LARGE,))):
            bench = Bench(m, tools)
            for edit in (None, ("push", 3, 0), ("learn", bench.m - 1, bench.m), ("push", -LONG, len(tools) - 1)):
                if edit is not None:
                    edited(bench, edit)
                for goal in {1, 2, 5, 8, 9, m - 1, m} & set(range(1, m + 1)):
                    self.check(bench, goal)

    def test_a_goal_that_no_plan_reaches(self):
        self.assertEqual(list(Bench(12, (P,)).walk(3)), [])

    def test_a_goal_that_is_reached(self):
        self.assertEqual(list(Bench(12, (P,)).walk(12)), [])

    def test_one_after_another(self):
        bench = Bench(12, (T,))
        steps = bench.walk(1)
        first = next(steps)
        self.assertEqual(first[0], bench.plan(1)[0])
        self.assertEqual(len(list(steps)), 2)
        self.assertRaises(StopIteration, next, steps)
        self.assertEqual((len(bench), bench.possible()), (0, ALL))

    def test_values_that_are_no_goals(self):
        bench = Bench(12, (T,))
        for value in WRONG_GOALS + (13,):
            # The error comes when the first item is asked for, not before.
            steps = bench.walk(value)
            with self.assertRaises(BadLength) as caught:
                next(steps)
            self.assertIs(caught.exception.value, value)
            self.assertEqual(len(bench), 0)

    def test_two_walks_at_once(self):
        bench = Bench(12, (T,))
        pairs = list(zip(bench.walk(1), bench.walk(1)))
        self.assertEqual([one for one, other in pairs], [other for one, other in pairs])
        self.assertEqual(len(pairs), 3)


def answers_without_walks(bench):
    return (bench.possible(), bench.edits(), bench.goal, bench.needed, str(bench))


class PlaceSets(unittest.TestCase):
    def test_places_are_ascending_tuples(self):
        sets = set(place_sets(4))
        for tool in some_tools(4, 20):
            bench = Bench(4, (tool,))
            for edit in some_edits(len(tool), 4, (tool,), 10):
                edited(bench, edit)
                self.assertIn(bench.possible(), sets)
                self.assertIs(type(bench.possible()), tuple)


if __name__ == "__main__":
    unittest.main()
