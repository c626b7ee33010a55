import unittest

from fieldmend.desk import judge
from helpers import CallTest, place_by_words, text, texts_over
from words import COLOURS


def chart(width, height, knot="a"):
    return (knot * width + "/") * height


class JudgeTest(CallTest):
    def judged(self, written, *expected):
        self.check(judge, (text(written),), list(expected))


class OrdinaryCharts(JudgeTest):
    def test_none_missing(self):
        self.judged("ab/cd/", 0)
        self.judged("aZ9/0bA/", 0)

    def test_some_missing(self):
        self.judged("a../.../..b/", 7)
        self.judged(".a/", 1)
        self.judged("a/./a/./", 2)

    def test_all_missing(self):
        self.judged(".../.../", 6)
        self.judged(chart(128, 512, "."), 65536)

    def test_one_by_one(self):
        self.judged("a/", 0)
        self.judged("./", 1)

    def test_every_colour_is_a_knot(self):
        self.assertEqual(len(COLOURS), 62)
        self.judged(COLOURS + "/" + "." * 62 + "/", 62)
        for colour in COLOURS:
            self.judged(colour + "/", 0)


class Faults(JudgeTest):
    def test_empty_text(self):
        self.judged("", -6, 0)

    def test_empty_rows(self):
        self.judged("/", -6, 0)
        self.judged("/a/", -6, 0)
        self.judged("a//", -6, 2)
        self.judged("a//a/", -6, 2)
        self.judged("ab/cd//", -6, 6)

    def test_shorter_row(self):
        self.judged("abc/ab/", -6, 6)
        self.judged("abc/abc/a/abc/", -6, 9)

    def test_longer_row(self):
        self.judged("abc/abcd/", -6, 7)
        self.judged("a/ab/a/", -6, 3)
        self.judged("a/a/a.", -6, 5)

    def test_last_row_without_its_end(self):
        self.judged("a", -6, 1)
        self.judged("ab", -6, 2)
        self.judged("ab/cd", -6, 5)
        self.judged("ab/c", -6, 4)
        self.judged("a" * 512, -6, 512)

    def test_byte_that_is_no_knot_in_every_place(self):
        whole = text("ab./c.d/")
        for wrong in (0, 32, 33, 63, 255):
            for place in range(len(whole)):
                self.check(judge, (whole[:place] + [wrong] + whole[place + 1:],), [-6, place])
            self.check(judge, (whole + [wrong],), [-6, len(whole)])

    def test_every_byte_that_is_no_knot(self):
        knots = set(text(COLOURS + "."))
        for byte in range(256):
            if byte in knots:
                self.check(judge, ([byte, 10],), [1 if byte == 46 else 0])
            else:
                self.check(judge, ([byte, 10],), [-6, 0])
                self.check(judge, ([97, byte],), [0] if byte == 10 else [-6, 1])
                self.check(judge, ([97, 97, 10, 97, byte, 10],), [-6, 4])

    def test_line_ends_of_other_kinds(self):
        self.judged("a\r/", -6, 1)
        self.judged("a/\r", -6, 2)


class Limits(JudgeTest):
    def test_widest(self):
        self.judged(chart(512, 1), 0)
        self.judged(chart(512, 2, "."), 1024)

    def test_one_wider(self):
        self.judged(chart(513, 1), -6, 512)
        self.judged("a" * 513, -6, 512)
        self.judged(chart(600, 2), -6, 512)

    def test_highest(self):
        self.judged(chart(1, 512, "."), 512)
        self.judged(chart(127, 512), 0)

    def test_one_higher(self):
        self.judged(chart(1, 513), -6, 1024)
        self.judged(chart(1, 512) + "a", -6, 1024)
        self.judged(chart(1, 512) + "/", -6, 1024)
        self.judged(chart(127, 513), -6, 128 * 512)

    def test_most_knots(self):
        self.judged(chart(512, 128, "."), 65536)
        self.judged(chart(256, 256, "."), 65536)
        self.judged(chart(128, 512), 0)

    def test_too_many_knots(self):
        self.judged(chart(512, 128) + "a", -6, 513 * 128)
        self.judged(chart(512, 128) + "/", -6, 513 * 128)
        self.judged(chart(256, 256) + "." * 255, -6, 257 * 256)
        self.judged(chart(129, 508), 0)
        self.judged(chart(129, 508) + "a", -6, 130 * 508)
        self.judged(chart(511, 128), 0)
        self.judged(chart(511, 128) + "a" * 128, -6, 512 * 128)

    def test_last_byte_of_the_greatest_chart(self):
        greatest = chart(128, 512)
        self.judged(greatest[:-1], -6, 66047)
        self.judged(greatest[:-1] + "a", -6, 66047)
        self.judged(greatest[:-1] + "!", -6, 66047)

    def test_longest_text(self):
        self.assertEqual(len(chart(128, 512)), 66048)
        self.judged(chart(128, 512), 0)
        self.judged("!" * 66048, -6, 0)
        self.judged("a" * 66048, -6, 512)

    def test_too_long_a_text_is_refused_ahead_of_its_fault(self):
        for written in (chart(128, 512) + "a", chart(128, 512) + "/", "!" * 66049, "!" * 66060,
                        "a" * 66049, "a" * 66060, chart(1, 33030)):
            self.judged(written, -2)


class ByTheWords(JudgeTest):
    """Every short text, against the document's own words for a chart and for the place of a fault."""

    def is_chart(self, written):
        rows = written.split("/")
        return (rows.pop() == "" and len(rows) > 0 and len(rows[0]) > 0
                and all(len(row) == len(rows[0]) for row in rows)
                and all(sign in COLOURS + "." for sign in "".join(rows)))

    def completions(self, begun):
        return [""] + ["a" * more + "/" for more in range(7)]

    def test_every_short_text(self):
        for written in texts_over("a./!", 6):
            if self.is_chart(written):
                self.judged(written, written.count("."))
            else:
                self.judged(written, -6, place_by_words(written, self.is_chart, self.completions))

    def test_most_rows_of_many_widths(self):
        for width in (1, 2, 3, 126, 127, 128, 129, 130, 131, 200, 255, 256, 257, 300, 400, 510, 511, 512):
            rows = min(512, 65536 // width)
            whole = chart(width, rows)
            self.assertEqual(judge(text(whole)), [0])
            if len(whole) < 66048:
                self.assertEqual(judge(text(whole + "a")), [-6, len(whole)])


if __name__ == "__main__":
    unittest.main()
