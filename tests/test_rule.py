import unittest

from fieldmend.desk import rule
from helpers import CallTest, place_by_words, text, texts_over


class RuleTest(CallTest):
    def ruled(self, written, *expected):
        self.check(rule, (text(written),), list(expected))


class OrdinaryRules(RuleTest):
    def test_moves_are_counted(self):
        self.ruled("1 2 0/", 1)
        self.ruled("0 1 0/0 0 1/", 2)
        self.ruled("7 511 511/2 0 0/4 10 99/", 3)

    def test_the_same_move_again_counts_again(self):
        self.ruled("3 4 5/3 4 5/", 2)

    def test_no_move(self):
        self.ruled("", 0)

    def test_every_turn(self):
        for turn in range(8):
            self.ruled(f"{turn} 0 0/", 1)

    def test_every_number_of_a_and_b(self):
        for number in range(512):
            self.ruled(f"0 {number} 0/", 1)
            self.ruled(f"0 0 {number}/", 1)


class Limits(RuleTest):
    def test_sixteen_moves(self):
        self.ruled("1 2 3/" * 15, 15)
        self.ruled("1 2 3/" * 16, 16)
        self.ruled("7 511 511/" * 16, 16)

    def test_seventeenth_move(self):
        self.ruled("1 2 3/" * 17, -6, 96)
        self.ruled("1 2 3/" * 16 + "1", -6, 96)
        self.ruled("1 2 3/" * 16 + "/", -6, 96)
        self.ruled("7 511 511/" * 17, -6, 160)

    def test_turn_too_great(self):
        self.ruled("8 0 0", -6, 0)
        self.ruled("8 0 0/", -6, 0)
        self.ruled("9 0 0/", -6, 0)
        self.ruled("10 0 0/", -6, 1)
        self.ruled("7 0 0/8 0 0/", -6, 6)

    def test_a_and_b_too_great(self):
        self.ruled("1 512 0/", -6, 4)
        self.ruled("1 0 512/", -6, 6)
        self.ruled("1 0 513", -6, 6)
        self.ruled("1 519 0/", -6, 4)
        self.ruled("1 520 0/", -6, 4)
        self.ruled("1 52 0/", 1)
        self.ruled("1 600 0/", -6, 4)
        self.ruled("1 999 0/", -6, 4)
        self.ruled("1 5110 0/", -6, 5)
        self.ruled("1 1000 0/", -6, 5)
        self.ruled("1 0 1000/", -6, 7)

    def test_a_and_b_at_their_edges(self):
        for number in (0, 9, 10, 99, 100, 511):
            self.ruled(f"1 {number} {number}/", 1)

    def test_longest_text(self):
        self.ruled("1 2 3/" * 42 + "1 2 ", -6, 96)
        self.ruled("1 " + "0" * 254, -6, 3)
        self.ruled("!" * 256, -6, 0)
        self.ruled("/" * 256, -6, 0)

    def test_too_long_a_text_is_refused_ahead_of_its_fault(self):
        for sign in "!/0 ":
            self.ruled(sign * 257, -2)
            self.ruled(sign * 270, -2)
        self.ruled("1 2 3/" * 45, -2)
        self.ruled("1 2 3/" * 42 + "1 2 3", -2)


class Faults(RuleTest):
    def test_needless_0_in_front(self):
        self.ruled("1 01 0", -6, 3)
        self.ruled("1 01 0/", -6, 3)
        self.ruled("1 00 0/", -6, 3)
        self.ruled("01 0 0/", -6, 1)
        self.ruled("00 0 0/", -6, 1)
        self.ruled("1 0 01/", -6, 5)
        self.ruled("1 0 00/", -6, 5)
        self.ruled("1 2 3/1 2 03/", -6, 11)

    def test_second_blank(self):
        self.ruled("1  2 0/", -6, 2)
        self.ruled("1 2  0/", -6, 4)
        self.ruled(" 1 2 0/", -6, 0)

    def test_no_blank(self):
        self.ruled("12 0/", -6, 1)
        self.ruled("120/", -6, 1)
        self.ruled("1 20/", -6, 4)
        self.ruled("1/", -6, 1)

    def test_blank_at_the_end_of_a_line(self):
        self.ruled("1 2 0 /", -6, 5)
        self.ruled("1 2 0/ ", -6, 6)
        self.ruled("1 2 /", -6, 4)

    def test_fourth_number(self):
        self.ruled("1 2 0 4/", -6, 5)

    def test_cut_short(self):
        whole = "7 511 10/"
        for length in range(1, len(whole)):
            self.ruled(whole[:length], -6, length)
            self.ruled(whole + whole[:length], -6, len(whole) + length)
        self.ruled("1 2", -6, 3)

    def test_missing_line_end_between_moves(self):
        self.ruled("1 2 3 4 5 6/", -6, 5)
        self.ruled("1 0 01 0 0/", -6, 5)
        self.ruled("1 2 32 3 4/", -6, 6)

    def test_empty_line(self):
        self.ruled("/", -6, 0)
        self.ruled("1 2 3//", -6, 6)
        self.ruled("/1 2 3/", -6, 0)

    def test_signs_in_front_of_numbers(self):
        self.ruled("-1 0 0/", -6, 0)
        self.ruled("1 -1 0/", -6, 2)
        self.ruled("1 0 +1/", -6, 4)

    def test_every_other_byte_in_every_place(self):
        whole = text("3 45 6/")
        for byte in range(256):
            if byte not in text("0123456789 /"):
                for place in range(len(whole)):
                    self.check(rule, (whole[:place] + [byte] + whole[place + 1:],), [-6, place])
                self.check(rule, (whole + [byte],), [-6, len(whole)])


class ByTheWords(RuleTest):
    """Every short text, against the document's own words for a rule and for the place of a fault."""

    def is_number(self, written, greatest):
        return written.isdecimal() and str(int(written)) == written and int(written) <= greatest

    def is_rule(self, written):
        lines = written.split("/")
        return lines.pop() == "" and len(lines) <= 16 and all(self.is_move(line) for line in lines)

    def is_move(self, line):
        parts = line.split(" ")
        return (len(parts) == 3 and self.is_number(parts[0], 7)
                and self.is_number(parts[1], 511) and self.is_number(parts[2], 511))

    def completions(self, begun):
        return ["", "/", "0/", " 0/", "0 0/", " 0 0/", "0 0 0/"]

    def held(self, written):
        if self.is_rule(written):
            self.ruled(written, written.count("/"))
        else:
            self.ruled(written, -6, place_by_words(written, self.is_rule, self.completions))

    def test_every_short_text(self):
        for written in texts_over("018 /", 5):
            self.held(written)

    def test_every_short_ending(self):
        for ending in texts_over("015 /", 4):
            self.held("1 51" + ending)
            self.held("1 2 5" + ending)
            self.held("1 2 3/" * 15 + "1 2 " + ending)


if __name__ == "__main__":
    unittest.main()
