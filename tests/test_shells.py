"""Shells: commands as lines of text [16] [17]."""

import unittest

from blindpush.benches import Bench, CostBench
from blindpush.errors import BadTurn
from blindpush.shells import Shell
from blindpush.texts import plan_text, tool_text
from tests.circles import ANY_VALUES, LARGE, P, T, turning_tool
from tests.states import BenchCase, state_of

ONE = ((0, 0),)
UNKNOWN = "unknown command"


def lines_with(word):
    """The commands with this word in the place of a number."""
    patterns = ("push {} 0", "push 0 {}", "push {0} {0}", "learn {} 1", "learn 0 {}", "remaining {}", "plan {}")
    return [pattern.format(word) for pattern in patterns]


class ShellCase(BenchCase):
    def check(self, bench, lines):
        """The shell of this bench gives these answers to the lines, one after another."""
        shell = Shell(bench)
        for line, expected in lines:
            answer = shell.execute(line)
            self.assertIs(type(answer), str)
            self.assertEqual(answer, expected, line)

    def check_unknown(self, lines):
        """Every line is unknown, and changes nothing."""
        bench = Bench(12, (T, P))
        bench.push(0, 0)
        before = state_of(bench)
        for line in lines:
            self.assertEqual(Shell(bench).execute(line), UNKNOWN, repr(line))
            self.assertEqual(state_of(bench), before)


class Commands(ShellCase):
    def test_edits(self):
        bench = Bench(12, (T, P))
        self.check(bench, (
            ("push 0 1", "ok 1"), ("learn 1 9", "ok 2"), ("push -5 0", "ok 3"), ("undo", "ok 2"), ("push 17 0", "ok 3"),
        ))
        self.assertEqual(bench.edits(), (("push", 0, 1), ("learn", 1, 9), ("push", 17, 0)))

    def test_the_shell_works_on_this_very_bench(self):
        bench = Bench(12, (T,))
        shell, other = Shell(bench), Shell(bench)
        self.assertEqual(shell.execute("push 0 0"), "ok 1")
        self.assertEqual((len(bench), bench.possible()), (1, (2, 6, 10)))
        bench.learn(0, 7)
        self.assertEqual(shell.execute("possible"), "2 6")
        self.assertEqual(other.execute("undo"), "ok 1")
        self.assertEqual(shell.execute("spread"), "9")
        bench.undo()
        self.assertEqual(shell.execute("undo"), "error NothingToUndo")

    def test_places(self):
        bench = Bench(12, (T,))
        self.check(bench, (
            ("possible", "0 1 2 3 4 5 6 7 8 9 10 11"), ("spread", "12"), ("push 0 0", "ok 1"), ("possible", "2 6 10"),
            ("spread", "9"), ("learn 9 4", "ok 2"), ("possible", "10"), ("spread", "1"),
        ))

    def test_remaining_and_plans(self):
        bench = Bench(12, (T,))
        for goal in range(1, 13):
            self.check(bench, (
                ("remaining {}".format(goal), str(bench.remaining(goal))),
                ("plan {}".format(goal), plan_text(bench.plan(goal))),
            ))
        self.check(bench, (("remaining 12", "0"), ("plan 12", "none"), ("remaining 1", "3")))
        self.assertEqual(len(Shell(bench).execute("plan 1").split(" ")), 3)

    def test_plans_that_do_not_exist(self):
        bench = Bench(12, (P, turning_tool(12)))
        self.check(bench, (
            ("remaining 3", "never"), ("plan 3", "never"), ("remaining 8", "never"), ("plan 8", "never"),
            ("remaining 9", "1"), ("learn 5 1", "ok 1"), ("remaining 1", "0"), ("plan 1", "none"),
        ))

    def test_tools(self):
        self.check(Bench(12, (T,)), (("tools", "0>2 5>6 9>10"),))
        self.check(Bench(12, (T, ((0, 1),), P)), (("tools", "0>2 5>6 9>10, 0>1, 0>1 4>5 8>9"),))
        self.check(Bench(60, (LARGE,) * 4), (("tools", ", ".join([tool_text(LARGE)] * 4)),))

    def test_the_answer_to_tools_can_be_read(self):
        bench = Bench(12, (T, P))
        self.assertTrue(Bench.read("12: " + Shell(bench).execute("tools")) == bench)

    def test_sixty_places(self):
        bench = Bench(60, (LARGE,))
        self.check(bench, (
            ("possible", " ".join(str(place) for place in range(60))), ("push 9999999999 0", "ok 1"),
            ("possible", " ".join(str(place) for place in sorted(target for begin, target in LARGE))),
        ))

    def test_queries_change_nothing(self):
        bench = Bench(12, (T,))
        bench.push(0, 0)
        bench.aim_at(5)
        before = state_of(bench)
        for line in ("possible", "spread", "remaining 1", "plan 1", "tools", "remaining 0", "plan 13"):
            Shell(bench).execute(line)
            self.assertEqual(state_of(bench), before)

    def test_a_cost_bench(self):
        bench = CostBench(12, (T, P), (3, 5), 8)
        self.check(bench, (
            ("push 0 1", "ok 1"), ("push 0 1", "error OverBudget"), ("push 0 0", "ok 2"),
            ("push 0 0", "error OverBudget"), ("undo", "ok 1"), ("push 0 2", "error NoTool"),
            ("tools", "0>2 5>6 9>10, 0>1 4>5 8>9"),
        ))
        self.assertEqual(bench.left, 3)


class Errors(ShellCase):
    def test_each_error(self):
        bench = Bench(12, (T,))
        lines = (
            ("undo", "error NothingToUndo"), ("push 0 1", "error NoTool"), ("push 0 -1", "error NoTool"),
            ("learn -1 2", "error NoPlace"), ("learn 12 0", "error NoPlace"), ("learn 0 0", "error BadLength"),
            ("learn 0 13", "error BadLength"), ("learn 0 -1", "error BadLength"), ("plan 0", "error BadLength"),
            ("plan 13", "error BadLength"), ("plan -3", "error BadLength"), ("remaining 0", "error BadLength"),
            ("remaining 13", "error BadLength"), ("remaining -9999999999", "error BadLength"),
        )
        before = state_of(bench)
        self.check(bench, lines)
        self.assertEqual(state_of(bench), before)
        self.check(bench, (("push 0 0", "ok 1"), ("learn 3 1", "error Impossible"), ("possible", "2 6 10")))

    def test_too_many_edits(self):
        bench = Bench(12, (T,))
        self.check(bench, [("push 0 0", "ok {}".format(version)) for version in range(1, 61)])
        self.check(bench, (
            ("push 0 0", "error TooManyEdits"), ("push 0 9", "error TooManyEdits"),
            ("learn 0 12", "error TooManyEdits"), ("undo", "ok 59"), ("learn 0 12", "ok 60"),
        ))

    def test_busy(self):
        bench = Bench(12, (T,))
        shell = Shell(bench)
        seen = []

        def watch(watched):
            for line in ("push 0 0", "push 0 9", "learn 99 0", "undo", "possible", "remaining 1", "undo 1"):
                seen.append(shell.execute(line))

        bench.attempt([("push", 0, 0)], watch=watch)
        self.assertEqual(seen, ["error Busy"] * 4 + ["2 6 10", "2", UNKNOWN])

    def test_an_error_that_no_line_leads_to(self):
        class Turning(Bench):
            def push(self, turn, index):
                raise BadTurn(turn)

        self.check(Turning(12, (T,)), (("push 0 0", "error BadTurn"),))


class Lines(ShellCase):
    def test_words_that_are_no_commands(self):
        self.check_unknown((
            "", " ", "\n", "help", "Push 0 0", "PUSH 0 0", "pushes 0 0", "attempt", "aim_at 3", "goal", "edits", "len",
            "read", "arc 0 1", "walk 1", "version", "pay 1", "none", "unknown command", "ok 1", "0 0", "push,0,0",
            "answer_push 0 0", "execute possible",
        ))

    def test_wrong_numbers_of_words(self):
        self.check_unknown((
            "push", "push 0", "push 0 0 0", "learn", "learn 0", "learn 0 1 2", "undo 1", "undo 0", "possible 0",
            "spread 1", "remaining", "remaining 1 1", "plan", "plan 1 0", "tools 0", "tools 0 0", "possible possible",
            "undo undo",
        ))

    def test_spaces(self):
        self.check_unknown((
            " push 0 0", "push 0 0 ", "push  0 0", "push 0  0", " undo", "undo ", " possible", "possible ", "spread ",
            "remaining  1", "remaining 1 ", "plan 1 ", " plan 1", "tools ", " tools", "  ", "push ", "push  ", "plan ",
        ))

    def test_line_feeds(self):
        self.check_unknown((
            "push 0 0\n", "\npush 0 0", "push\n0 0", "push 0\n0", "undo\n", "\nundo", "undo\nundo", "possible\n",
            "remaining 1\n", "remaining \n1", "plan\n1", "tools\n", "spread\n",
        ))

    def test_how_numbers_are_written(self):
        words = (
            "-0", "+1", "05", "00", "-05", "+0", "1.0", "1e1", "0x1", "1_0", "a", "-", "+", "--1", "1-", "", "True",
            "None", "1,", "(1)", "\t1", "1\t", "1:0", "never",
        )
        for word in words:
            self.check_unknown(lines_with(word))

    def test_ten_and_eleven_digits(self):
        bench = Bench(12, (T,))
        self.check(bench, (
            ("push 9999999999 0", "ok 1"), ("push -9999999999 0", "ok 2"), ("push 1000000000 0", "ok 3"),
            ("push 0 9999999999", "error NoTool"), ("push 0 -9999999999", "error NoTool"),
            ("learn 9999999999 1", "error NoPlace"), ("learn -9999999999 1", "error NoPlace"),
            ("learn 0 9999999999", "error BadLength"), ("plan 9999999999", "error BadLength"),
        ))
        self.assertEqual(bench.edits()[:2], (("push", 9999999999, 0), ("push", -9999999999, 0)))
        for word in ("10000000000", "-10000000000", "99999999999", "1" + "0" * 40, "9" * 1900, "00000000001"):
            self.check_unknown(lines_with(word))

    def test_an_unknown_line_comes_before_an_error(self):
        self.check_unknown(("push 10000000000 9", "learn 99 05", "plan -0", "push 9 9 9"))

    def test_values_that_are_no_texts(self):
        self.check_unknown(ANY_VALUES + (["undo"], ("undo",), {"undo": 0}, ("push", 0, 0), ["push", "0", "0"]))


if __name__ == "__main__":
    unittest.main()
