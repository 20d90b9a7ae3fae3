"""Tools and plans as texts [3] [16]."""

import unittest
from itertools import product

from blindpush.errors import BadText
from blindpush.texts import parse_plan, parse_tool, plan_text, tool_text
from blindpush.tools import tool_error
from tests.circles import ANY_VALUES, LARGE, LONG, P, T, all_tools, merging_tool

TWELVE = tuple((place, place) for place in range(12))

# What is not the text of a number, though it looks like one.
WRONG_NUMBERS = (
    "", "-", "+", "+0", "+1", "-0", "00", "01", "-01", "007", "1.0", "1e1", "0x1", "1_0", "--1", "a", "one", "None",
    "True", "False", "0\n", "\n0", "0\n0", "(0)", "'0'", "0,", "\t1", "1\r",
)
# Digits and minus signs of other scripts are not printable ASCII, but no reader should take them for numbers.
OTHER_SCRIPTS = ("\u0663", "\u00b2", "\uff11", "\u22121", "\u00a01")


class TextCase(unittest.TestCase):
    def refused(self, index, function, *args):
        with self.assertRaises(BadText, msg=args) as caught:
            function(*args)
        self.assertEqual(caught.exception.index, index, args)
        self.assertIs(type(caught.exception.index), type(index))


class TextsOfTools(unittest.TestCase):
    def test_texts(self):
        self.assertEqual(tool_text(((0, 0),)), "0>0")
        self.assertEqual(tool_text(((3, 0), (8, 5))), "3>0 8>5")
        self.assertEqual(tool_text(LARGE), "3>47 4>50 9>51 15>59 16>0 22>6 30>7 31>20 32>21 44>22 50>40 58>41")

    def test_there_and_back(self):
        for m in range(1, 6):
            for tool in all_tools(m):
                self.assertEqual(parse_tool(m, tool_text(tool)), tool)
        for m, tool in ((12, T), (12, P), (60, LARGE), (60, ((0, 59),)), (12, TWELVE), (13, merging_tool(13))):
            text = tool_text(tool)
            self.assertEqual(parse_tool(m, text), tool)
            self.assertEqual(tool_text(parse_tool(m, text)), text)


class TextsOfPlans(unittest.TestCase):
    def test_texts(self):
        self.assertEqual(plan_text(()), "none")
        self.assertEqual(plan_text(((0, 0),)), "0:0")
        self.assertEqual(plan_text(((-1, 3), (12, 2))), "-1:3 12:2")
        self.assertEqual(plan_text(((LONG, 0), (-LONG, 1))), "9" * 30 + ":0 -" + "9" * 30 + ":1")

    def test_a_hundred_pushes(self):
        self.assertEqual(plan_text(((5, 1),) * 100), " ".join(["5:1"] * 100))

    def test_there_and_back(self):
        turns = (0, 1, -1, 10, -10, 59, LONG, -LONG, 10 ** 29)
        pushes = list(product(turns, range(4)))
        for many in (0, 1, 2):
            for plan in product(pushes, repeat=many):
                self.assertEqual(parse_plan(plan_text(plan)), plan)
        self.assertEqual(parse_plan(plan_text(((-7, 2),) * 100)), ((-7, 2),) * 100)


class ParseTools(TextCase):
    def test_kinds_of_values(self):
        found = parse_tool(12, "0>2 5>6 9>10")
        self.assertEqual(found, T)
        self.assertIs(type(found), tuple)
        for pair in found:
            self.assertIs(type(pair), tuple)
            self.assertEqual([type(part) for part in pair], [int, int])

    def test_every_row_of_pairs_of_small_circles(self):
        for m, most in ((1, 2), (2, 3), (3, 2)):
            pairs = list(product(range(-1, m + 1), repeat=2))
            for many in range(1, most + 1):
                for value in product(pairs, repeat=many):
                    error = tool_error(m, value)
                    text = " ".join("{}>{}".format(*pair) for pair in value)
                    if error is None:
                        self.assertEqual(parse_tool(m, text), value)
                    else:
                        self.refused(error[0], parse_tool, m, text)

    def test_one_word(self):
        self.assertEqual(parse_tool(12, "0>11"), ((0, 11),))
        self.assertEqual(parse_tool(1, "0>0"), ((0, 0),))
        self.assertEqual(parse_tool(60, "0>59"), ((0, 59),))
        for text in ("1>0", "11>11", "0>12", "12>0", "0>-1", "-1>0"):
            self.refused(0, parse_tool, 12, text)
        self.refused(0, parse_tool, 1, "0>1")
        self.refused(0, parse_tool, 60, "0>60")
        # The first of two words may have another begin.
        self.assertEqual(parse_tool(12, "1>0 11>11"), ((1, 0), (11, 11)))
        self.refused(1, parse_tool, 12, "1>0 ")

    def test_begins_and_targets_out_of_order(self):
        self.refused(1, parse_tool, 12, "0>2 0>6")
        self.refused(1, parse_tool, 12, "5>2 4>6")
        self.refused(1, parse_tool, 12, "0>2 5>2")
        self.refused(2, parse_tool, 12, "0>2 5>6 9>2")
        self.refused(2, parse_tool, 12, "0>6 5>2 9>10")
        self.refused(2, parse_tool, 12, "0>2 5>6 5>10")
        self.refused(2, parse_tool, 12, "0>2 5>6 12>10")
        self.assertEqual(parse_tool(12, "0>10 5>2 9>6"), ((0, 10), (5, 2), (9, 6)))
        self.assertEqual(parse_tool(12, "3>10 8>0 11>4"), ((3, 10), (8, 0), (11, 4)))

    def test_empty_words(self):
        self.refused(0, parse_tool, 12, "")
        self.refused(0, parse_tool, 12, " ")
        self.refused(0, parse_tool, 12, " 0>2 5>6")
        self.refused(1, parse_tool, 12, "0>2  5>6")
        self.refused(1, parse_tool, 12, "0>2 ")
        self.refused(2, parse_tool, 12, "0>2 5>6 ")
        self.refused(2, parse_tool, 12, "0>2 5>6  9>10")
        self.refused(0, parse_tool, 12, "0>2\t5>6 9>10")

    def test_signs_between(self):
        for word in ("0", ">", "0>", ">0", "0>>0", "0>0>0", "0:0", "0 >0", "0> 0", "0<0", "0->0", "0-0", "0,0", "0>0,"):
            self.refused(0, parse_tool, 12, word)
            if " " not in word:
                self.refused(1, parse_tool, 12, "0>2 " + word + " 9>10")

    def test_wrong_numbers(self):
        for wrong in WRONG_NUMBERS + OTHER_SCRIPTS:
            self.refused(0, parse_tool, 12, wrong + ">2 5>6")
            self.refused(0, parse_tool, 12, "0>" + wrong + " 5>6")
            self.refused(1, parse_tool, 12, "0>2 5>" + wrong)
            self.refused(1, parse_tool, 12, "0>2 " + wrong + ">6 9>10")

    def test_long_numbers(self):
        for many in (3, 30, 31, 40, 2000, 5000):
            self.refused(0, parse_tool, 12, "0>" + "1" * many)
            self.refused(0, parse_tool, 12, "0>" + "0" * many)
            self.refused(1, parse_tool, 12, "0>2 -" + "1" * many + ">6")

    def test_thirteen_words(self):
        words = ["{}>{}".format(place, place) for place in range(60)]
        self.assertEqual(parse_tool(60, " ".join(words[:12])), TWELVE)
        for many in (13, 14, 60):
            self.refused(12, parse_tool, 60, " ".join(words[:many]))
        self.refused(12, parse_tool, 12, " ".join(words[:13]))
        self.refused(12, parse_tool, 60, " ".join(words[:12]) + " ")
        self.refused(12, parse_tool, 60, " ".join(words[:12]) + " none")
        self.refused(11, parse_tool, 60, " ".join(words[:11]) + " 10>10 12>12")
        self.refused(3, parse_tool, 60, " ".join(words[:3] + ["x"] + words[4:14]))

    def test_the_first_wrong_word_counts(self):
        self.refused(0, parse_tool, 12, "x y z")
        self.refused(1, parse_tool, 12, "0>2 0>2 x")
        self.refused(1, parse_tool, 12, "0>2 x 0>2")
        self.refused(2, parse_tool, 12, "4>2 5>6 x 3>3")

    def test_values_that_are_no_texts(self):
        for value in ANY_VALUES + (T, list(T), ["0>2"], ("0>2",), {"0>2": "0>2"}):
            if isinstance(value, str):
                self.refused(0, parse_tool, 12, value)
            else:
                self.refused(None, parse_tool, 12, value)

    def test_none_is_no_tool(self):
        self.refused(0, parse_tool, 12, "none")

    def test_line_feeds(self):
        for text in ("0>2\n", "\n0>2", "0\n>2", "0>2\n5>6", "\n"):
            self.refused(0, parse_tool, 12, text)
        self.refused(1, parse_tool, 12, "0>2 5>6\n 9>10")


class ParsePlans(TextCase):
    def test_kinds_of_values(self):
        found = parse_plan("0:0 -3:1")
        self.assertIs(type(found), tuple)
        for push in found:
            self.assertIs(type(push), tuple)
            self.assertEqual([type(part) for part in push], [int, int])

    def test_none(self):
        self.assertEqual(parse_plan("none"), ())
        self.refused(0, parse_plan, "none 0:0")
        self.refused(1, parse_plan, "0:0 none")
        self.refused(1, parse_plan, "0:0 none 0:9")
        for text in ("none none", "none ", " none", "None", "NONE", "none\n", "non", "nones", "none:0", "0:none", "''"):
            self.refused(0, parse_plan, text)

    def test_indexes(self):
        for index in range(4):
            self.assertEqual(parse_plan("5:" + str(index)), ((5, index),))
        for index in ("4", "-1", "-0", "00", "01", "+1", "10", "4" * 40):
            self.refused(0, parse_plan, "5:" + index)
            self.refused(1, parse_plan, "5:3 5:" + index)

    def test_digits_of_turns(self):
        for turn in (LONG, -LONG, 10 ** 29, -(10 ** 29), 0, -1, 60, -60):
            self.assertEqual(parse_plan(str(turn) + ":0"), ((turn, 0),))
        for turn in (LONG + 1, -LONG - 1, 10 ** 31 - 1, 10 ** 40 - 1, 1 - 10 ** 40):
            self.refused(0, parse_plan, str(turn) + ":0")
            self.refused(2, parse_plan, "0:0 1:1 " + str(turn) + ":2 x")
        for many in (31, 2000, 5000):
            self.refused(0, parse_plan, "1" * many + ":0")
            self.refused(0, parse_plan, "0" * many + ":0")
            self.refused(0, parse_plan, "-" + "1" * many + ":0")
            self.refused(0, parse_plan, "0:" + "1" * many)
        # Thirty digits, but a zero in front.
        self.refused(0, parse_plan, "0" + "9" * 29 + ":0")

    def test_wrong_numbers(self):
        for wrong in WRONG_NUMBERS + OTHER_SCRIPTS:
            self.refused(0, parse_plan, wrong + ":0")
            self.refused(0, parse_plan, "0:" + wrong)
            self.refused(1, parse_plan, "0:0 " + wrong + ":1 0:0")
            self.refused(2, parse_plan, "0:0 1:1 2:" + wrong)

    def test_empty_words(self):
        self.refused(0, parse_plan, "")
        self.refused(0, parse_plan, " ")
        self.refused(0, parse_plan, " 0:0")
        self.refused(1, parse_plan, "0:0 ")
        self.refused(1, parse_plan, "0:0  0:0")
        self.refused(2, parse_plan, "0:0 1:1  0:0")

    def test_signs_between(self):
        for word in ("0", ":", "0:", ":0", "0::0", "0:0:0", "0>0", "0 :0", "0: 0", "0-0", "0;0", "0:0,"):
            self.refused(0, parse_plan, word)
            if " " not in word:
                self.refused(1, parse_plan, "0:0 " + word)

    def test_a_hundred_and_one_words(self):
        self.assertEqual(parse_plan(" ".join(["1:2"] * 100)), ((1, 2),) * 100)
        for many in (101, 102, 300):
            self.refused(100, parse_plan, " ".join(["1:2"] * many))
        self.refused(100, parse_plan, " ".join(["1:2"] * 100 + ["x"]))
        self.refused(100, parse_plan, " ".join(["1:2"] * 100 + [""]))
        self.refused(99, parse_plan, " ".join(["1:2"] * 99 + ["x", "1:2"]))
        self.refused(7, parse_plan, " ".join(["1:2"] * 7 + ["1:4"] + ["1:2"] * 100))

    def test_line_feeds(self):
        for text in ("0:0\n", "\n0:0", "0\n:0", "0:0\n1:1", "\n"):
            self.refused(0, parse_plan, text)
        self.refused(1, parse_plan, "0:0 1:1\n 2:2")

    def test_values_that_are_no_texts(self):
        for value in ANY_VALUES + ((), ((0, 0),), [(0, 0)], ["none"], ("none",), ["0:0"], {"none": "none"}):
            if isinstance(value, str):
                self.refused(0, parse_plan, value)
            else:
                self.refused(None, parse_plan, value)


if __name__ == "__main__":
    unittest.main()
