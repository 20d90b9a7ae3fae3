"""Benches and their edits [3] [13] [14]."""

import unittest

from blindpush.benches import Bench
from blindpush.bounds import MAX_EDITS
from blindpush.errors import BadCircle, BadLength, BadTurn, NoPlace, NoTool
from blindpush.plans import fewest_pushes
from tests.circles import ANY_VALUES, LARGE, LONG, P, T, arc_places, pushed, spread_by_search
from tests.states import NO_NUMBERS, BenchCase, ending, state_of

ALL = tuple(range(12))
ONE = ((0, 0),)


class Creation(BenchCase):
    def test_all_places_are_possible(self):
        for m, tool in ((1, ONE), (2, ONE), (12, T), (60, LARGE)):
            for many in range(1, 5):
                bench = Bench(m, (tool,) * many)
                self.assertEqual(bench.possible(), tuple(range(m)))
                self.assertEqual((len(bench), bench.edits(), bench.goal), (0, (), 1))

    def test_wrong_circles(self):
        for value in NO_NUMBERS + (0, -1, 61, 10 ** 40 - 1, (12,), [12], "12"):
            for tools in ((T,), (), None, (ONE, "tool")):
                with self.assertRaises(BadCircle) as caught:
                    Bench(value, tools)
                self.assertIs(caught.exception.value, value)

    def test_wrong_tools(self):
        for value in (None, True, 0, "", "tool", [], [T], {}, {"a": T}, (), (T,) * 5, (None,) * 5):
            self.assertEqual(ending(Bench, 12, value), "raises BadTools(None)")

    def test_the_first_wrong_tool(self):
        wrong = ANY_VALUES + (
            ((3, 1),), list(T), ((0, 2), (5, 2)), ((0, 2), (5, 12)), ((0, True),), ((False, 0),),
        )
        for value in wrong:
            for at in range(4):
                tools = (T,) * at + (value,) + (P,) * (3 - at)
                self.assertEqual(ending(Bench, 12, tools), "raises BadTools({})".format(at))
            self.assertEqual(ending(Bench, 12, (T, value, value)), "raises BadTools(1)")

    def test_tools_of_another_circle(self):
        self.assertEqual(ending(Bench, 10, (ONE, T)), "raises BadTools(1)")
        self.assertEqual(Bench(11, (ONE, T)).possible(), ALL[:11])


class Edits(BenchCase):
    def test_push(self):
        bench = Bench(12, (T, P))
        places = ALL
        for version, (turn, index) in enumerate(((0, 1), (3, 0), (-5, 1), (12, 0), (-1, 0)), start=1):
            self.assertEqual(bench.push(turn, index), version)
            places = pushed(12, (T, P), (turn, index), places)
            self.assertEqual(bench.possible(), places)
            self.assertEqual(bench.edits()[-1], ("push", turn, index))

    def test_learn(self):
        for begin in range(12):
            for length in range(1, 13):
                bench = Bench(12, (T,))
                self.assertEqual(bench.learn(begin, length), 1)
                self.assertEqual(bench.possible(), tuple(arc_places(12, begin, length)))
                self.assertEqual(bench.edits(), (("learn", begin, length),))

    def test_learn_keeps_what_was_possible(self):
        bench = Bench(12, (T,))
        for begin, length, possible in ((9, 7, (0, 1, 2, 3, 9, 10, 11)), (2, 10, (2, 3, 9, 10, 11)), (3, 7, (3, 9))):
            bench.learn(begin, length)
            self.assertEqual(bench.possible(), possible)
        self.refuse(bench, "Impossible()", bench.learn, 4, 5)
        self.refuse(bench, "Impossible()", bench.learn, 10, 5)
        self.assertEqual(bench.learn(4, 6), 4)
        self.assertEqual(bench.possible(), (9,))

    def test_both_edits(self):
        bench = Bench(12, (T,))
        self.assertEqual([bench.push(0, 0), bench.learn(0, 12), bench.push(3, 0), bench.learn(9, 4)], [1, 2, 3, 4])
        expected = (("push", 0, 0), ("learn", 0, 12), ("push", 3, 0), ("learn", 9, 4))
        self.assertEqual(bench.edits(), expected)
        self.assertEqual(bench.possible(), (10,))
        for edit in bench.edits():
            self.assertEqual([type(part) for part in edit], [str, int, int])

    def test_one_place(self):
        bench = Bench(1, (ONE,))
        self.assertEqual([bench.push(7, 0), bench.learn(0, 1), bench.possible()], [1, 2, (0,)])
        self.refuse_value(bench, NoPlace, bench.learn, 1, 1)
        self.refuse(bench, "BadLength(2)", bench.learn, 0, 2)

    def test_turns_of_30_digits(self):
        for turn in (LONG, -LONG, LONG - 1, 10 ** 29):
            bench = Bench(12, (T,))
            bench.learn(0, 5)
            bench.push(turn, 0)
            self.assertEqual(bench.possible(), pushed(12, (T,), (turn, 0), (0, 1, 2, 3, 4)))
            self.assertEqual(bench.edits()[-1], ("push", turn, 0))

    def test_wrong_turns(self):
        bench = Bench(12, (T,))
        bench.push(0, 0)
        for value in NO_NUMBERS + (LONG + 1, -LONG - 1, 10 ** 40 - 1):
            for index in (0, 1, None):
                self.refuse_value(bench, BadTurn, bench.push, value, index)

    def test_wrong_tools(self):
        bench = Bench(12, (T, P))
        bench.learn(3, 3)
        for value in NO_NUMBERS + (2, 3, 4, -1, -2, LONG, 10 ** 40 - 1):
            before = state_of(bench)
            with self.assertRaises(NoTool) as caught:
                bench.push(0, value)
            self.assertIs(caught.exception.value, value)
            self.assertEqual(state_of(bench), before)

    def test_wrong_places(self):
        bench = Bench(12, (T,))
        bench.learn(3, 3)
        for value in NO_NUMBERS + (-1, 12, 13, 10 ** 40 - 1):
            for length in (1, 12, 0, None):
                self.refuse_value(bench, NoPlace, bench.learn, value, length)

    def test_wrong_lengths(self):
        bench = Bench(12, (T,))
        bench.learn(3, 3)
        for value in NO_NUMBERS + (-1, 0, 13, 10 ** 40 - 1):
            for begin in (3, 9):
                before = state_of(bench)
                with self.assertRaises(BadLength) as caught:
                    bench.learn(begin, value)
                self.assertIs(caught.exception.value, value)
                self.assertEqual(state_of(bench), before)

    def test_any_values(self):
        for left in ANY_VALUES:
            for right in ANY_VALUES:
                bench = Bench(12, (T,))
                self.assertRegex(ending(bench.push, left, right), r"^(1|raises (BadTurn|NoTool)\(.*\))$")
                bench = Bench(12, (T,))
                self.assertRegex(ending(bench.learn, left, right), r"^(1|raises (NoPlace|BadLength)\(.*\))$")


class ManyEdits(BenchCase):
    def full_bench(self):
        bench = Bench(12, (T, P))
        for version in range(1, MAX_EDITS + 1):
            done = bench.push(version, version % 2) if version % 3 else bench.learn(0, 12)
            self.assertEqual(done, version)
        return bench

    def test_sixty_and_one_more(self):
        bench = self.full_bench()
        self.assertEqual(len(bench), 60)
        for function, left, right in (
            (bench.push, 0, 0), (bench.push, None, 0), (bench.push, 0, 9), (bench.learn, 0, 12), (bench.learn, 12, 1),
            (bench.learn, 0, 0), (bench.learn, 3, 1),
        ):
            self.refuse(bench, "TooManyEdits()", function, left, right)

    def test_there_is_room_after_undo(self):
        bench = self.full_bench()
        self.assertEqual(bench.undo(), 59)
        self.refuse(bench, "BadTurn(None)", bench.push, None, 0)
        self.assertEqual(bench.push(0, 0), 60)
        self.refuse(bench, "TooManyEdits()", bench.push, 0, 0)

    def test_undo_until_nothing_stands(self):
        bench = self.full_bench()
        states = [bench.possible(version=version) for version in range(61)]
        edits = bench.edits()
        for version in range(59, -1, -1):
            self.assertEqual(bench.undo(), version)
            self.assertEqual(len(bench), version)
            self.assertEqual(bench.edits(), edits[:version])
            self.assertEqual(bench.possible(), states[version])
        for again in range(2):
            self.refuse(bench, "NothingToUndo()", bench.undo)
        self.assertEqual(bench.possible(), ALL)
        self.assertEqual(bench.push(0, 0), 1)

    def test_a_new_bench_has_nothing_to_undo(self):
        bench = Bench(12, (T,))
        self.refuse(bench, "NothingToUndo()", bench.undo)

    def test_an_edit_that_fails_is_not_undone(self):
        bench = Bench(12, (T,))
        bench.push(0, 0)
        self.refuse(bench, "Impossible()", bench.learn, 3, 1)
        self.assertEqual(bench.undo(), 0)
        self.assertEqual(bench.possible(), ALL)


class Versions(BenchCase):
    def test_every_version(self):
        bench = Bench(12, (T, P))
        expected = [ALL]
        for turn, index in ((0, 1), (5, 0), (2, 0), (-3, 1)):
            bench.push(turn, index)
            expected.append(pushed(12, (T, P), (turn, index), expected[-1]))
            bench.learn(expected[-1][0], 12)
            expected.append(expected[-1])
        for version, places in enumerate(expected):
            self.assertEqual(bench.possible(version=version), places)
            self.assertEqual(bench.spread(version=version), spread_by_search(12, places))
            for goal in range(1, 13):
                self.assertEqual(bench.remaining(goal, version=version), fewest_pushes(12, (T, P), places, goal))
        self.assertEqual(bench.possible(version=None), expected[-1])
        self.assertEqual(bench.possible(version=len(bench)), bench.possible())

    def test_wrong_versions(self):
        bench = Bench(12, (T,))
        bench.push(0, 0)
        bench.learn(0, 7)
        for value in [value for value in NO_NUMBERS if value is not None] + [-1, -2, 3, 4, 60, 10 ** 40 - 1]:
            told = "NoVersion({!r})".format(value)
            self.refuse(bench, told, bench.possible, version=value)
            self.refuse(bench, told, bench.spread, version=value)
            for goal in (1, 0, 13, None, True):
                self.refuse(bench, told, bench.remaining, goal, version=value)

    def test_versions_that_were_undone(self):
        bench = Bench(12, (T,))
        bench.push(0, 0)
        bench.undo()
        self.refuse(bench, "NoVersion(1)", bench.possible, version=1)
        bench.learn(3, 2)
        self.assertEqual(bench.possible(version=1), (3, 4))

    def test_the_version_is_passed_by_keyword(self):
        bench = Bench(12, (T,))
        self.assertRaises(TypeError, bench.possible, 0)
        self.assertRaises(TypeError, bench.spread, 0)
        self.assertRaises(TypeError, bench.remaining, 1, 0)


if __name__ == "__main__":
    unittest.main()
