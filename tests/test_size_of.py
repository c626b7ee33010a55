import unittest

from fieldmend.desk import of, size
from helpers import CallTest, GREATEST, SIXTEEN_MOVES, text
from words import TURNS, Worn, drawn


def parted(field, rule):
    """The first place of each place's orbit, by the call of."""
    width = field.index("/")
    return [[tuple(of(x, y, text(field), text(rule))[1:3]) for x in range(width)] for y in range(field.count("/"))]


class OrbitTest(CallTest):
    def sized(self, chart, rule, *expected):
        self.check(size, (text(chart), text(rule)), list(expected))

    def asked(self, x, y, chart, rule, *expected):
        self.check(of, (x, y, text(chart), text(rule)), list(expected))

    def held(self, chart, rule):
        """Both calls, at every place, against the document's words."""
        worn = Worn(chart, rule)
        self.sized(chart, rule, *worn.size())
        for x, y in worn.places:
            self.asked(x, y, chart, rule, *worn.of((x, y)))

    def orbits_are(self, drawing, rule):
        """The drawing has the same letter at the places of one orbit, another for each orbit."""
        rows = drawing.split("/")[:-1]
        firsts = {}
        for y, row in enumerate(rows):
            for x, letter in enumerate(row):
                firsts.setdefault(letter, (x, y))
        self.assertEqual(parted(drawing, rule), [[firsts[letter] for letter in row] for row in rows], rule)
        places = "".join(rows)
        greatest = max(places.count(letter) for letter in firsts)
        self.sized(drawing, rule, 0, len(firsts), greatest, len(firsts), 0)


class TheRun(OrbitTest):
    def test_size(self):
        self.sized("a../.../..b/", "1 2 0/", 0, 3, 4, 1, 1)

    def test_of(self):
        for x, y in ((0, 0), (2, 0), (0, 2), (2, 2)):
            self.asked(x, y, "a../.../..b/", "1 2 0/", 0, 0, 0, 4, 2)
        for x, y in ((1, 0), (0, 1), (2, 1), (1, 2)):
            self.asked(x, y, "a../.../..b/", "1 2 0/", 0, 1, 0, 4, 0)
        self.asked(1, 1, "a../.../..b/", "1 2 0/", 0, 1, 1, 1, 0)

    def test_no_move(self):
        self.sized("a../.../..b/", "", 0, 9, 1, 2, 0)
        for x in range(3):
            for y in range(3):
                self.asked(x, y, "a../.../..b/", "", 0, x, y, 1, 1 if x == y != 1 else 0)


class EachMotion(OrbitTest):
    """Drawn by hand from the turns that the document lists."""

    def test_square_without_moving_on(self):
        self.orbits_are("abc/def/ghi/", "0 0 0/")
        self.orbits_are("abb/bcc/bcc/", "1 0 0/")
        self.orbits_are("abb/cde/ced/", "2 0 0/")
        self.orbits_are("abb/bcc/bcc/", "3 0 0/")
        self.orbits_are("abb/cdd/eff/", "4 0 0/")
        self.orbits_are("abc/cde/bfd/", "5 0 0/")
        self.orbits_are("abc/def/def/", "6 0 0/")
        self.orbits_are("abc/bde/cef/", "7 0 0/")

    def test_square_moved_on_to_the_right(self):
        self.orbits_are("aaa/bbb/ccc/", "0 1 0/")
        self.orbits_are("aab/aab/bbc/", "1 1 0/")
        self.orbits_are("aab/cde/dce/", "2 1 0/")
        self.orbits_are("aab/bbc/aab/", "3 1 0/")
        self.orbits_are("aab/ccd/eef/", "4 1 0/")
        self.orbits_are("aab/aba/baa/", "5 1 0/")
        self.orbits_are("aaa/bbb/bbb/", "6 1 0/")
        self.orbits_are("aab/baa/aba/", "7 1 0/")

    def test_odd_turns_with_different_a_and_b_keep_apart(self):
        partings = [parted("aaa/aaa/aaa/", f"{m} 1 2/") for m in (1, 3, 5, 7)]
        for number, parting in enumerate(partings):
            self.assertNotIn(parting, partings[:number])

    def test_oblong(self):
        self.orbits_are("abcd/efgh/", "0 0 0/")
        self.orbits_are("abcb/defe/", "2 0 0/")
        self.orbits_are("abcb/defe/", "4 0 0/")
        self.orbits_are("abcd/efgh/", "6 0 0/")
        self.orbits_are("aaaa/bbbb/", "0 1 0/")
        self.orbits_are("abcd/abcd/", "0 0 1/")
        self.orbits_are("aabb/ccdd/", "4 1 0/")
        self.orbits_are("abcd/abcd/", "6 0 1/")
        self.orbits_are("abab/cdcd/", "0 2 0/")
        self.orbits_are("abab/baba/", "0 1 1/")
        self.orbits_are("abcd/dcba/", "2 3 1/")
        self.orbits_are("abcd/efgh/efgh/", "6 0 0/")
        self.orbits_are("abcd/abcd/efgh/", "6 0 1/")

    def test_every_turn_with_every_small_a_and_b(self):
        for chart in ("ab./..a/b.c/", "a.b./.b.a/", "a/./b/a/", "ab.a/", "a/", "./", "ab/.a/"):
            worn = Worn(chart, "")
            for m in TURNS:
                if m % 2 == 0 or worn.width == worn.height:
                    for a in range(worn.width + 1):
                        for b in range(worn.height + 1):
                            self.held(chart, f"{m} {a} {b}/")

    def test_a_and_b_of_the_size_and_above(self):
        for chart in ("ab.c/d..a/.a.b/bbaa/", "ab./c.d/a.a/.c./abc/", "a.b./.b.a/"):
            worn = Worn(chart, "")
            for m in TURNS:
                if m % 2 == 0 or worn.width == worn.height:
                    for a in (0, worn.width, worn.width + 1, 511):
                        for b in (0, worn.height, worn.height + 1, 510, 511):
                            self.held(chart, f"{m} {a} {b}/")
                            self.assertEqual(parted(chart, f"{m} {a} {b}/"),
                                             parted(chart, f"{m} {a % worn.width} {b % worn.height}/"))


class Thin(OrbitTest):
    def test_one_by_one(self):
        for m in TURNS:
            for chart, knots in (("a/", 1), ("./", 0)):
                self.sized(chart, f"{m} 511 3/", 0, 1, 1, knots, 0)
                self.asked(0, 0, chart, f"{m} 511 3/", 0, 0, 0, 1, knots)

    def test_one_row(self):
        self.orbits_are("abcdcb/", "4 0 0/")
        self.orbits_are("abcabc/", "0 3 7/")
        self.orbits_are("aaaaaa/", "0 5 0/")
        self.orbits_are("abcdef/", "6 0 5/")

    def test_one_column(self):
        self.orbits_are("a/b/c/d/c/b/", "6 0 0/")
        self.orbits_are("a/b/a/b/a/b/", "0 9 4/")
        self.orbits_are("a/b/c/d/c/b/", "2 3 0/")
        self.orbits_are("a/b/c/d/e/f/", "4 5 0/")


class SeveralMoves(OrbitTest):
    def test_the_same_move_twice(self):
        for rule in ("1 2 0/", "0 2 1/", "5 1 0/"):
            for chart in ("a../.../..b/", "ab.a/..../b..b/.a.a/"):
                self.assertEqual(size(text(chart), text(rule * 2)), size(text(chart), text(rule)))
                self.assertEqual(parted(chart, rule * 16), parted(chart, rule))
                self.held(chart, rule * 2)

    def test_orbits_that_only_three_moves_make(self):
        row = "a" * 30 + "/"
        self.sized(row, "0 6 0/0 10 0/", 0, 2, 15, 2, 0)
        self.sized(row, "0 6 0/0 15 0/", 0, 3, 10, 3, 0)
        self.sized(row, "0 10 0/0 15 0/", 0, 5, 6, 5, 0)
        self.sized(row, "0 6 0/0 10 0/0 15 0/", 0, 1, 30, 1, 0)
        self.asked(29, 0, row, "0 6 0/0 10 0/0 15 0/", 0, 0, 0, 30, 30)

    def test_orbits_that_only_four_moves_make(self):
        column = "a/" * 210
        moves = ["0 0 30/", "0 0 42/", "0 0 70/", "0 0 105/"]
        self.sized(column, "".join(moves), 0, 1, 210, 1, 0)
        for left_out, orbits in zip(moves, (7, 5, 3, 2)):
            rule = "".join(move for move in moves if move != left_out)
            self.sized(column, rule, 0, orbits, 210 // orbits, orbits, 0)

    def test_three_turns_together(self):
        self.held("ab.c./d..a./.a.b./bbaa./...c./", "4 0 0/6 0 0/7 0 0/")
        self.held("ab.c/d..a/.a.b/bbaa/", "0 2 0/6 0 1/7 1 1/")
        self.held("abcdef/....../", "0 2 0/4 1 0/6 0 1/")

    def test_the_order_of_moves_is_nothing(self):
        moves = ["0 2 0/", "6 0 1/", "7 1 1/"]
        chart = "ab.c/d..a/.a.b/bbaa/"
        for order in ((0, 2, 1), (1, 0, 2), (1, 2, 0), (2, 0, 1), (2, 1, 0)):
            rule = "".join(moves[number] for number in order)
            self.assertEqual(parted(chart, rule), parted(chart, "".join(moves)))


class Clashes(OrbitTest):
    def test_only_knots_of_another_colour_than_the_first_are_counted(self):
        self.sized("abba/", "0 1 0/", 0, 1, 4, 1, 2)
        self.sized("abab/", "0 1 0/", 0, 1, 4, 1, 2)
        self.sized("abcd/", "0 1 0/", 0, 1, 4, 1, 3)
        self.sized("baaa/", "0 1 0/", 0, 1, 4, 1, 3)

    def test_missing_knots_neither_clash_nor_lead(self):
        self.sized(".a.b/", "0 1 0/", 0, 1, 4, 1, 1)
        self.sized("..../", "0 1 0/", 0, 1, 4, 0, 0)
        self.sized("...b/", "0 1 0/", 0, 1, 4, 1, 0)

    def test_over_several_orbits(self):
        self.sized("ab../ba../..../", "0 0 1/", 0, 4, 3, 2, 2)

    def test_alike_letters_of_two_cases_are_two_colours(self):
        self.sized("aA/", "0 1 0/", 0, 1, 2, 1, 1)


class Drawn(OrbitTest):
    def test_against_the_words(self):
        for number in range(300):
            self.held(*drawn(number))

    def test_orbits_part_the_places(self):
        for number in range(300):
            chart, rule = drawn(number)
            worn = Worn(chart, rule)
            answers = {(x, y): of(x, y, text(chart), text(rule)) for x, y in worn.places}
            for x, y in worn.places:
                first = tuple(answers[x, y][1:3])
                alike = [place for place in worn.places if answers[place] == answers[x, y]]
                self.assertEqual(first, alike[0])
                self.assertEqual(len(alike), answers[x, y][3])
            self.assertEqual(len({tuple(answer[1:3]) for answer in answers.values()}),
                             size(text(chart), text(rule))[1])

    def test_more_moves_no_more_orbits(self):
        for number in range(300):
            chart, rule = drawn(number)
            orbits = [size(text(chart), text(rule[:end]))[1] for end in range(len(rule) + 1)
                      if end == 0 or rule[end - 1] == "/"]
            self.assertEqual(orbits, sorted(orbits, reverse=True))
            self.assertEqual(orbits[0], len(Worn(chart, "").places))


class Edges(OrbitTest):
    def test_the_chart_s_edges(self):
        self.asked(3, 0, "abcd/efgh/", "", 0, 3, 0, 1, 1)
        self.asked(0, 1, "abcd/efgh/", "", 0, 0, 1, 1, 1)
        self.asked(3, 1, "abcd/efgh/", "", 0, 3, 1, 1, 1)

    def test_no_such_place(self):
        for x, y in ((4, 0), (0, 2), (4, 1), (3, 2), (4, 2), (5, 0), (0, 5),
                     (4294967295, 0), (0, 4294967295), (4294967295, 4294967295)):
            self.asked(x, y, "abcd/efgh/", "", -4)
            self.asked(x, y, "..../..../", "2 1 0/", -4)
        self.asked(1, 0, "a/", "", -4)
        self.asked(0, 1, "a/", "", -4)

    def test_edges_of_the_greatest_charts(self):
        for width, height in GREATEST:
            chart = ("a" * width + "/") * height
            self.assertEqual(of(width - 1, height - 1, text(chart), []), [0, width - 1, height - 1, 1, 1])
            self.assertEqual(of(width, height - 1, text(chart), []), [-4])
            self.assertEqual(of(width - 1, height, text(chart), []), [-4])


class Greatest(OrbitTest):
    def test_sixteen_moves(self):
        for width, height in GREATEST:
            chart = text(("a" * (width - 1) + "b/") * height)
            for rule in SIXTEEN_MOVES:
                sized = self.ends_soon(size, chart, text(rule))
                asked = self.ends_soon(of, width - 1, height - 1, chart, text(rule))
                self.assertEqual(sized[0], 0)
                self.assertEqual(asked[0], 0)
                self.assertLessEqual(asked[3], sized[2])

    def test_one_orbit_of_all(self):
        for width, height in GREATEST:
            chart = text(("a" * width + "/") * height)
            rule = text("0 1 0/0 0 1/" * 8)
            self.assertEqual(self.ends_soon(size, chart, rule), [0, 1, 65536, 1, 0])
            self.assertEqual(self.ends_soon(of, width - 1, height - 1, chart, rule), [0, 0, 0, 65536, 65536])

    def test_as_many_orbits_as_places(self):
        for width, height in GREATEST:
            chart = text(("." * width + "/") * height)
            rule = text("0 0 0/" * 16)
            self.assertEqual(self.ends_soon(size, chart, rule), [0, 65536, 1, 0, 0])

    def test_quarter_turns(self):
        chart = text(("a" * 256 + "/") * 256)
        rule = text("1 255 0/" * 16)
        self.assertEqual(self.ends_soon(size, chart, rule), [0, 16384, 4, 16384, 0])


if __name__ == "__main__":
    unittest.main()
