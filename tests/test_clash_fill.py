import unittest

from fieldmend.desk import clash, fill
from helpers import CallTest, GREATEST, SIXTEEN_MOVES, text, written
from words import COLOURS, Worn, drawn


class FillTest(CallTest):
    def clashes(self, chart, rule, *expected):
        self.check(clash, (text(chart), text(rule)), list(expected))

    def filled(self, ground, chart, rule, expected):
        self.check(fill, (ground, text(chart), text(rule)), [len(expected)] + text(expected))

    def not_filled(self, ground, chart, rule, number):
        self.check(fill, (ground, text(chart), text(rule)), [number])


class TheRun(FillTest):
    def test_clash(self):
        self.clashes("a../.../..b/", "1 2 0/", 0, 2, 2, 0, 0)

    def test_fill_with_a_clash(self):
        self.not_filled(0, "a../.../..b/", "1 2 0/", -9)
        self.not_filled(99, "a../.../..b/", "1 2 0/", -9)

    def test_fill(self):
        self.filled(0, "a../.../.../", "1 2 0/", "a.a/.../a.a/")
        self.filled(99, "a../.../.../", "1 2 0/", "aca/ccc/aca/")


class Clash(FillTest):
    def test_first_of_the_orbit_s_knots_is_missing(self):
        self.clashes(".a.b/", "0 1 0/", 0, 3, 0, 1, 0)
        self.clashes("..a/.../b../", "1 2 0/", 0, 0, 2, 2, 0)

    def test_with_the_first_not_with_the_one_before(self):
        self.clashes("aaab/", "0 1 0/", 0, 3, 0, 0, 0)
        self.clashes("a..b/", "0 1 0/", 0, 3, 0, 0, 0)
        self.clashes("a/a/b/", "0 0 1/", 0, 0, 2, 0, 0)

    def test_several_in_one_orbit(self):
        self.clashes("abba/", "0 1 0/", 0, 1, 0, 0, 0)
        self.clashes(".abcb/", "0 1 0/", 0, 2, 0, 1, 0)
        self.clashes("baaa/", "0 1 0/", 0, 1, 0, 0, 0)

    def test_earlier_orbit_clashes_later(self):
        # Columns 0 and 1 are orbits; the first clashes in row 2, the other in row 1.
        self.clashes("ab/ac/bb/", "0 0 1/", 0, 1, 1, 1, 0)
        # In one row the two take turns: places 0, 2, 4 and 1, 3, 5.
        self.clashes("abacbb/", "0 2 0/", 0, 3, 0, 1, 0)

    def test_earlier_orbit_clashes_first(self):
        self.clashes("ab/bb/ac/", "0 0 1/", 0, 0, 1, 0, 0)

    def test_order_is_row_by_row(self):
        # Both columns and rows could lead here: the row above comes first.
        self.clashes("ab../ab.a/b.../", "0 0 1/", 0, 0, 2, 0, 0)
        self.clashes("aab/abb/aaa/", "0 0 1/", 0, 1, 1, 1, 0)
        self.clashes(".a/b./a./", "0 0 1/", 0, 0, 2, 0, 1)

    def test_none(self):
        self.clashes("aaaa/", "0 1 0/", -5)
        self.clashes("a.a./", "0 1 0/", -5)
        self.clashes("abab/", "0 2 0/", -5)
        self.clashes("a../.../..a/", "1 2 0/", -5)

    def test_none_without_a_knot(self):
        self.clashes("./", "", -5)
        self.clashes(".../.../.../", "1 2 0/0 1 0/", -5)

    def test_none_with_the_empty_rule(self):
        self.clashes("abcd/efgh/", "", -5)
        self.clashes("a/", "", -5)
        self.clashes("ab/", "0 0 0/", -5)

    def test_colours_of_all_three_runs(self):
        for one, other in (("a", "A"), ("A", "0"), ("0", "a"), ("z", "Z"), ("y", "z"), ("8", "9")):
            self.clashes(one + other + "/", "0 1 0/", 0, 1, 0, 0, 0)

    def test_drawn(self):
        for number in range(300):
            chart, rule = drawn(number)
            self.clashes(chart, rule, *Worn(chart, rule).clash())


class Ground(FillTest):
    CHART = "a.../..../"
    RULE = "0 2 0/"

    def test_every_colour(self):
        for colour in COLOURS:
            self.filled(ord(colour), self.CHART, self.RULE, f"a{colour}a{colour}/{colour * 4}/")

    def test_none(self):
        self.filled(0, self.CHART, self.RULE, "a.a./..../")

    def test_every_byte_that_is_no_colour(self):
        for byte in range(1, 256):
            if chr(byte) not in COLOURS:
                self.not_filled(byte, self.CHART, self.RULE, -1)

    def test_named_numbers_that_are_no_colour(self):
        for number in (47, 58, 64, 91, 96, 123, 46, 10, 1, 255, 256, 353, 304, 4294967295, 4294967296 - 256 + 97):
            self.not_filled(number, self.CHART, self.RULE, -1)
            self.not_filled(number, "ab/cd/", "", -1)

    def test_bad_ground_ahead_of_a_clash(self):
        for number in (1, 46, 256, 4294967295):
            self.not_filled(number, "a../.../..b/", "1 2 0/", -1)

    def test_move_that_can_not_act_ahead_of_a_bad_ground(self):
        for number in (1, 46, 256, 4294967295):
            for m in (1, 3, 5, 7):
                self.not_filled(number, "abc/def/", f"{m} 0 0/", -3)

    def test_faults_ahead_of_a_bad_ground(self):
        self.not_filled(1, "abc/de/", "", -6)
        self.not_filled(1, "abc/", "8 0 0/", -6)
        self.not_filled(1, "a" * 66049, "", -2)
        self.not_filled(1, "abc/", "0" * 257, -2)


class Fill(FillTest):
    def test_orbits_with_and_without_knots(self):
        self.filled(0, "a./../.b/", "0 0 1/", "ab/ab/ab/")
        self.filled(0, "a../..b/", "0 0 1/", "a.b/a.b/")
        self.filled(120, "a../..b/", "0 0 1/", "axb/axb/")

    def test_ground_only_where_an_orbit_has_no_knot(self):
        self.filled(120, "..a./", "0 1 0/", "aaaa/")
        self.filled(97, "b.../", "0 2 0/", "baba/")

    def test_from_a_knot_that_is_not_at_the_first_place(self):
        self.filled(0, "..../...a/", "0 1 0/", "..../aaaa/")
        self.filled(48, "..../...a/", "0 1 0/", "0000/aaaa/")

    def test_nothing_to_fill(self):
        self.filled(0, "ab/cd/", "", "ab/cd/")
        self.filled(120, "ab/cd/", "", "ab/cd/")
        self.filled(120, "aa/aa/", "0 1 0/0 0 1/", "aa/aa/")

    def test_no_knots(self):
        self.filled(0, "../../", "0 1 0/", "../../")
        self.filled(122, "../../", "0 1 0/", "zz/zz/")
        self.filled(0, "./", "", "./")
        self.filled(57, "./", "", "9/")

    def test_empty_rule(self):
        self.filled(0, "a./.b/", "", "a./.b/")
        self.filled(99, "a./.b/", "", "ac/cb/")

    def test_a_clash_anywhere(self):
        for ground in (0, 99):
            self.not_filled(ground, "ab/", "0 1 0/", -9)
            self.not_filled(ground, "..../..../a..b/", "0 1 0/", -9)

    def test_drawn(self):
        for number in range(300):
            chart, rule = drawn(number)
            worn = Worn(chart, rule)
            for ground in (".", "c", "Q", "7"):
                byte = 0 if ground == "." else ord(ground)
                if worn.clashes():
                    self.not_filled(byte, chart, rule, -9)
                else:
                    self.filled(byte, chart, rule, worn.filled(ground))


class Promises(FillTest):
    def filled_charts(self):
        """Drawn charts and what they are filled to, where no clash is, with a ground and without."""
        for number in range(600):
            chart, rule = drawn(number)
            for ground in (0, 99):
                answer = fill(ground, text(chart), text(rule))
                if answer != [-9]:
                    yield ground, chart, rule, written(answer)

    def test_same_knots_as_before(self):
        for ground, chart, rule, filled in self.filled_charts():
            self.assertEqual(len(filled), len(chart))
            for before, after in zip(chart, filled):
                if before != ".":
                    self.assertEqual(after, before)

    def test_each_move_carries_every_knot_to_one_of_its_colour(self):
        tried = 0
        for ground, chart, rule, filled in self.filled_charts():
            worn = Worn(filled, rule)
            for move in worn.moves:
                for place in worn.places:
                    if worn.colour[place] != ".":
                        self.assertEqual(worn.colour[worn.moved(move, place)], worn.colour[place])
                        tried += 1
        self.assertGreater(tried, 1000)

    def test_its_seeds_filled_give_it_again(self):
        for ground, chart, rule, filled in self.filled_charts():
            seeds = Worn(filled, rule).seeds()
            self.assertEqual(fill(0, text(seeds), text(rule)), [len(filled)] + text(filled))

    def test_filled_stays_when_filled_again(self):
        for ground, chart, rule, filled in self.filled_charts():
            self.assertEqual(fill(ground, text(filled), text(rule)), [len(filled)] + text(filled))
            self.assertEqual(clash(text(filled), text(rule)), [-5])


class Greatest(FillTest):
    def test_sixteen_moves(self):
        for width, height in GREATEST:
            seeded = text("a" + "." * (width - 1) + "/" + ("." * width + "/") * (height - 1))
            clashing = text("a" + "." * (width - 1) + "/" + ("b" * width + "/") * (height - 1))
            for rule in SIXTEEN_MOVES:
                answer = self.ends_soon(fill, 98, seeded, text(rule))
                self.assertEqual(answer[0], len(seeded))
                self.assertEqual(len(answer), len(seeded) + 1)
                self.assertEqual(self.ends_soon(clash, seeded, text(rule)), [-5])
                self.assertEqual(self.ends_soon(clash, clashing, text(rule))[3:], [0, 0])
                self.assertEqual(self.ends_soon(fill, 0, clashing, text(rule)), [-9])

    def test_one_orbit_of_all(self):
        for width, height in GREATEST:
            rule = text("0 1 0/0 0 1/" * 8)
            last = "." * (width - 1)
            chart = text(("." * width + "/") * (height - 1) + last + "z/")
            self.assertEqual(self.ends_soon(fill, 97, chart, rule), [len(chart)] + text(("z" * width + "/") * height))
            chart = text("a" + last + "/" + ("." * width + "/") * (height - 2) + last + "z/")
            self.assertEqual(self.ends_soon(clash, chart, rule), [0, width - 1, height - 1, 0, 0])

    def test_longest_answer(self):
        chart = text(("." * 128 + "/") * 512)
        self.assertEqual(self.ends_soon(fill, 57, chart, []), [66048] + text(("9" * 128 + "/") * 512))


if __name__ == "__main__":
    unittest.main()
