import unittest

from fieldmend.desk import clash, fill, mend, seeds, size
from helpers import CallTest, GREATEST, SIXTEEN_MOVES, text, written
from words import COLOURS, Worn, drawn


class MendTest(CallTest):
    def seeded(self, chart, rule, expected):
        self.check(seeds, (text(chart), text(rule)), [len(expected)] + text(expected))

    def mended(self, chart, rule, expected):
        self.check(mend, (text(chart), text(rule)), [len(expected)] + text(expected))


class TheRun(MendTest):
    def test_mend(self):
        self.mended("a../.../..b/", "1 2 0/", "a.a/.../a.a/")

    def test_seeds(self):
        self.seeded("aca/ccc/aca/", "1 2 0/", "ac./.c./.../")


class Seeds(MendTest):
    def test_first_places_alone(self):
        self.seeded("abcd/", "0 1 0/", "a.../")
        self.seeded("abcd/", "0 2 0/", "ab../")
        self.seeded("ab/cd/ef/", "0 0 1/", "ab/../../")
        self.seeded("aaa/aaa/", "0 1 0/", "a../a../")

    def test_missing_first_place_stays_missing(self):
        self.seeded(".bcd/", "0 1 0/", "..../")
        self.seeded(".a.a/", "0 2 0/", ".a../")
        self.seeded("..a/.../b../", "1 2 0/", ".../.../.../")

    def test_clashes_are_not_looked_at(self):
        self.seeded("a../.../..b/", "1 2 0/", "a../.../.../")

    def test_empty_rule(self):
        for chart in ("ab./.c9/", "a/", "./", ".../"):
            self.seeded(chart, "", chart)
            self.seeded(chart, "0 0 0/", chart)

    def test_no_knots(self):
        self.seeded("../../", "0 1 0/", "../../")

    def test_drawn(self):
        for number in range(300):
            chart, rule = drawn(number)
            self.seeded(chart, rule, Worn(chart, rule).seeds())


class Mend(MendTest):
    def test_the_most_not_the_first(self):
        self.mended("abb./", "0 1 0/", "bbbb/")
        self.mended("abbb/", "0 1 0/", "bbbb/")
        self.mended("ab.b/", "0 1 0/", "bbbb/")
        self.mended("zz.a/", "0 1 0/", "zzzz/")

    def test_two_equally_many(self):
        for one, other in ("ab", "az", "bA", "zA", "AB", "AZ", "Z0", "A9", "a0", "z9", "09", "89"):
            for row in (one + other, other + one):
                self.mended(row + "/", "0 1 0/", one * 2 + "/")
                self.mended(row + ".." + row + "/", "0 1 0/", one * 6 + "/")

    def test_every_colour_against_the_next(self):
        for one, other in zip(COLOURS, COLOURS[1:]):
            self.mended(other + one + "/", "0 1 0/", one * 2 + "/")

    def test_three_equally_many(self):
        for row in ("aA0", "0Aa", "Aa0", "0aA"):
            self.mended(row + "/", "0 1 0/", "aaa/")
        self.mended("cba/", "0 1 0/", "aaa/")
        self.mended("9Zb.bZ9/", "0 1 0/", "bbbbbbb/")

    def test_equally_many_above_a_lesser_colour_of_fewer(self):
        self.mended("accbb/", "0 1 0/", "bbbbb/")
        self.mended("a00ZZ/", "0 1 0/", "ZZZZZ/")

    def test_missing_are_not_counted(self):
        self.mended("...b/", "0 1 0/", "bbbb/")
        self.mended(".....ba./", "0 1 0/", "aaaaaaaa/")

    def test_orbits_without_knots_stay_missing(self):
        self.mended("a.../", "0 2 0/", "a.a./")
        self.mended("../.b/", "0 1 0/", "../bb/")
        self.mended("../../", "0 1 0/0 0 1/", "../../")
        self.mended("./", "3 1 0/", "./")

    def test_each_orbit_by_itself(self):
        self.mended("ab/ac/bc/", "0 0 1/", "ac/ac/ac/")

    def test_empty_rule(self):
        for chart in ("ab./.c9/", "a/", "./", ".../"):
            self.mended(chart, "", chart)

    def test_drawn(self):
        for number in range(300):
            chart, rule = drawn(number)
            self.mended(chart, rule, Worn(chart, rule).mended())


class Promises(MendTest):
    def test_what_is_mended_has_no_clash_and_stays(self):
        clashed = 0
        for number in range(600):
            chart, rule = drawn(number)
            mended = mend(text(chart), text(rule))
            self.assertEqual(clash(mended[1:], text(rule)), [-5])
            self.assertEqual(mend(mended[1:], text(rule)), mended)
            self.assertEqual(fill(0, mended[1:], text(rule)), mended)
            clashed += clash(text(chart), text(rule)) != [-5]
        self.assertGreater(clashed, 100)

    def test_seeds_of_what_is_filled_give_it_again(self):
        tried = 0
        for number in range(600):
            chart, rule = drawn(number)
            for ground in (0, 99):
                filled = fill(ground, text(chart), text(rule))
                if filled != [-9]:
                    seed = seeds(filled[1:], text(rule))
                    self.assertEqual(fill(0, seed[1:], text(rule)), filled)
                    self.assertEqual(seeds(seed[1:], text(rule)), seed)
                    tried += seed != filled
        self.assertGreater(tried, 100)

    def test_a_seed_for_each_orbit_with_knots_of_a_filled_chart(self):
        for number in range(300):
            chart, rule = drawn(number)
            filled = fill(99, text(chart), text(rule))
            if filled != [-9]:
                seed = written(seeds(filled[1:], text(rule)))
                self.assertEqual(sum(seed.count(colour) for colour in COLOURS), size(text(chart), text(rule))[1])

    def test_more_moves_no_more_seeds(self):
        for number in range(300):
            chart, rule = drawn(number)
            left = [written(seeds(text(chart), text(rule[:end]))).count(".") for end in range(len(rule) + 1)
                    if end == 0 or rule[end - 1] == "/"]
            self.assertEqual(left, sorted(left))


class Greatest(MendTest):
    def test_sixteen_moves(self):
        for width, height in GREATEST:
            chart = text(("b" + "a" * (width - 1) + "/") * height)
            for rule in SIXTEEN_MOVES:
                self.assertEqual(self.ends_soon(seeds, chart, text(rule))[0], len(chart))
                self.assertEqual(self.ends_soon(mend, chart, text(rule))[0], len(chart))

    def test_one_orbit_of_all(self):
        for width, height in GREATEST:
            rule = text("0 1 0/0 0 1/" * 8)
            chart = text(("b" * (width // 2) + "a" * (width // 2) + "/") * height)
            mended = ("a" * width + "/") * height
            self.assertEqual(self.ends_soon(mend, chart, rule), [len(mended)] + text(mended))
            seed = "b" + "." * (width - 1) + "/" + ("." * width + "/") * (height - 1)
            self.assertEqual(self.ends_soon(seeds, chart, rule), [len(seed)] + text(seed))

    def test_as_many_orbits_as_places(self):
        rows = "".join((COLOURS * 5)[number % 62:][:128] + "/" for number in range(512))
        rule = text("0 0 0/" * 16)
        self.assertEqual(self.ends_soon(mend, text(rows), rule), [66048] + text(rows))
        self.assertEqual(self.ends_soon(seeds, text(rows), rule), [66048] + text(rows))

    def test_every_colour_in_one_orbit(self):
        rows = "".join((COLOURS[::-1] * 5)[number % 62:][:128] + "/" for number in range(512))
        counts = [rows.count(colour) for colour in COLOURS]
        most = COLOURS[counts.index(max(counts))]
        mended = (most * 128 + "/") * 512
        self.assertEqual(self.ends_soon(mend, text(rows), text("0 1 0/0 0 1/" * 8)), [66048] + text(mended))


if __name__ == "__main__":
    unittest.main()
