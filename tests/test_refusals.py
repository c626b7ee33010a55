"""What the calls on a chart and a rule refuse, and in which order."""

import unittest

from fieldmend.desk import clash, cost, fill, mend, of, seeds, size
from helpers import CallTest, text

LONG_CHART = "a" * 66049
LONG_RULE = "1 2 3/" * 42 + "1 2 3"
FAULTY_CHART = "abc/ab/"
FAULTY_RULE = "8 0 0/"
OBLONG = "abc/def/"
SQUARE = "ab/cd/"
QUARTER = "1 0 0/"


# Each call with what is handed in ahead of the chart and the rule: what it takes, and what it refuses only later.
CALLS = ((size, ()), (of, (0, 0)), (of, (4294967295, 4294967295)), (clash, ()), (fill, (0,)), (fill, (99,)), (fill, (46,)),
         (fill, (4294967295,)), (seeds, ()), (mend, ()), (cost, ()))


class Refusals(CallTest):
    def refused(self, chart, rule, number):
        for call, ahead in CALLS:
            with self.subTest(call=call.__name__, ahead=ahead):
                self.check(call, (*ahead, text(chart), text(rule)), [number])

    def taken(self, chart, rule):
        for call, ahead in CALLS:
            with self.subTest(call=call.__name__, ahead=ahead):
                self.assertNotIn(call(*ahead, text(chart), text(rule))[0], (-2, -6, -3))


class TooLong(Refusals):
    def test_chart(self):
        for chart in (LONG_CHART, "!" * 66049, "a" * 66060, ("a" * 128 + "/") * 512 + "a"):
            self.refused(chart, "", -2)

    def test_rule(self):
        for rule in (LONG_RULE, "!" * 257, "0" * 270):
            self.refused(SQUARE, rule, -2)

    def test_both(self):
        self.refused(LONG_CHART, LONG_RULE, -2)

    def test_ahead_of_the_other_text_s_fault(self):
        self.refused(FAULTY_CHART, LONG_RULE, -2)
        self.refused(LONG_CHART, FAULTY_RULE, -2)

    def test_ahead_of_a_move_that_can_not_act(self):
        self.refused(LONG_CHART, QUARTER, -2)

    def test_longest_that_are_read(self):
        self.refused("a" * 66048, "", -6)
        self.refused(SQUARE, "!" * 256, -6)
        self.taken(("a" * 128 + "/") * 512, "6 511 511/" * 16)


class AtFault(Refusals):
    def test_chart(self):
        for chart in ("", "/", "a", FAULTY_CHART, "ab/c!/", "a" * 513 + "/", "a/" * 513, ("a" * 400 + "/") * 164):
            self.refused(chart, "", -6)
            self.refused(chart, QUARTER, -6)

    def test_rule(self):
        for rule in (FAULTY_RULE, "1 01 0/", "1 2", "1 2 0", "0 512 0/", "0 0 0/" * 17, "/"):
            self.refused(SQUARE, rule, -6)
            self.refused(OBLONG, rule, -6)

    def test_both(self):
        self.refused(FAULTY_CHART, FAULTY_RULE, -6)

    def test_ahead_of_a_move_that_can_not_act(self):
        self.refused(OBLONG, QUARTER + FAULTY_RULE, -6)
        self.refused(OBLONG + "a", QUARTER, -6)


class CanNotAct(Refusals):
    def test_each_odd_turn_where_width_is_not_height(self):
        for m in (1, 3, 5, 7):
            for chart in (OBLONG, "ab/", "a/b/", "..../..../..../"):
                self.refused(chart, f"{m} 0 0/", -3)
                self.refused(chart, f"{m} 2 511/", -3)

    def test_as_the_last_of_several(self):
        for m in (1, 3, 5, 7):
            self.refused(OBLONG, f"0 1 0/2 0 0/{m} 0 0/", -3)
            self.refused(OBLONG, f"{m} 0 0/0 1 0/", -3)
            self.refused(OBLONG, "6 0 0/" * 15 + f"{m} 0 0/", -3)

    def test_not_where_width_is_height(self):
        for m in range(8):
            for chart in (SQUARE, "a/", "./", ".../.../.../"):
                self.taken(chart, f"{m} 1 0/")

    def test_not_the_even_turns(self):
        for m in (0, 2, 4, 6):
            for chart in (OBLONG, "ab/", "a/b/"):
                self.taken(chart, f"{m} 1 1/")

    def test_widest_and_highest(self):
        self.refused(("." * 512 + "/") * 128, QUARTER, -3)
        self.refused(("." * 128 + "/") * 512, QUARTER, -3)
        self.refused(("." * 256 + "/") * 255, QUARTER, -3)


if __name__ == "__main__":
    unittest.main()
