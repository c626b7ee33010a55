import itertools
import unittest

from fieldmend.desk import clash, cost, mend, size
from helpers import CallTest, GREATEST, SIXTEEN_MOVES, text, written
from words import COLOURS, Worn, drawn


class CostTest(CallTest):
    def costs(self, chart, rule, expected):
        self.check(cost, (text(chart), text(rule)), [expected])


class Cost(CostTest):
    def test_the_run(self):
        self.costs("a../.../..b/", "1 2 0/", 1)

    def test_all_but_the_most(self):
        self.costs("aaab/", "0 1 0/", 1)
        self.costs("abbb/", "0 1 0/", 1)
        self.costs("aabb/", "0 1 0/", 2)
        self.costs("abcd/", "0 1 0/", 3)
        self.costs("abbc/", "0 1 0/", 2)

    def test_missing_are_not_counted(self):
        self.costs("a.../", "0 1 0/", 0)
        self.costs("a..b/", "0 1 0/", 1)
        self.costs(".ab./.b../", "0 1 0/0 0 1/", 1)
        self.costs("..../", "0 1 0/", 0)

    def test_over_all_orbits(self):
        self.costs("ab/ac/bc/", "0 0 1/", 2)
        self.costs("ab/ba/", "0 0 1/", 2)

    def test_no_clash(self):
        self.costs("aaaa/", "0 1 0/", 0)
        self.costs("a.a./", "0 1 0/", 0)
        self.costs("ab/cd/", "", 0)
        self.costs("a/", "", 0)
        self.costs("./", "5 1 1/", 0)
        self.costs("a.a/.../a.a/", "1 2 0/", 0)

    def test_drawn(self):
        for number in range(300):
            chart, rule = drawn(number)
            worn = Worn(chart, rule)
            self.costs(chart, rule, worn.difference(worn.mended()))


class AgainstOtherCalls(CostTest):
    def test_knots_at_which_the_mended_chart_is_another(self):
        for number in range(600):
            chart, rule = drawn(number)
            mended = written(mend(text(chart), text(rule)))
            changed = [1 for before, after in zip(chart, mended) if before != "." and before != after]
            self.assertEqual(cost(text(chart), text(rule)), [len(changed)])

    def test_mended_it_costs_nothing(self):
        for number in range(300):
            chart, rule = drawn(number)
            self.assertEqual(cost(mend(text(chart), text(rule))[1:], text(rule)), [0])

    def test_nothing_just_where_no_clash_is_and_never_more_than_clashes(self):
        for number in range(600):
            chart, rule = drawn(number)
            [answer] = cost(text(chart), text(rule))
            self.assertEqual(answer == 0, clash(text(chart), text(rule)) == [-5])
            self.assertLessEqual(answer, size(text(chart), text(rule))[4])


class LeastMending(CostTest):
    """Every chart that the moves carry into itself, against every worn chart of its size."""

    def held(self, width, height, signs, rule):
        charts = ["".join("".join(row) + "/" for row in rows)
                  for rows in itertools.product(itertools.product(signs, repeat=width), repeat=height)]
        carried = [chart for chart in charts if Worn(chart, rule).carried(chart)]
        for chart in charts:
            worn = Worn(chart, rule)
            least = min(worn.difference(other) for other in carried)
            self.assertEqual(cost(text(chart), text(rule)), [least], (chart, rule))
            self.assertIn(written(mend(text(chart), text(rule))), carried)

    def test_two_by_two(self):
        for m in range(8):
            for a, b in ((0, 0), (1, 0), (1, 1)):
                self.held(2, 2, ".ab", f"{m} {a} {b}/")
        self.held(2, 2, ".ab", "")
        self.held(2, 2, ".ab", "0 1 0/0 0 1/")
        self.held(2, 2, "abA0", "0 1 1/")

    def test_a_row_and_a_column(self):
        self.held(5, 1, ".ab", "0 1 0/")
        self.held(4, 1, "a.bc", "0 2 0/")
        self.held(4, 1, "a.bc", "4 1 0/")
        self.held(1, 4, ".0zA", "6 0 0/")

    def test_three_by_two(self):
        self.held(3, 2, ".ab", "0 1 1/")
        self.held(3, 2, "ba", "2 1 0/")
        self.held(3, 2, "ba", "4 0 0/6 0 1/")

    def test_three_by_three(self):
        self.held(3, 3, "ab", "1 2 0/")
        self.held(3, 3, "ab", "7 0 0/0 1 1/")


class Greatest(CostTest):
    def test_sixteen_moves(self):
        for width, height in GREATEST:
            chart = text(("b" + "a" * (width - 1) + "/") * height)
            for rule in SIXTEEN_MOVES:
                [answer] = self.ends_soon(cost, chart, text(rule))
                self.assertLessEqual(answer, size(chart, text(rule))[4])

    def test_one_orbit_of_all(self):
        for width, height in GREATEST:
            rule = text("0 1 0/0 0 1/" * 8)
            chart = text(("ab" * (width // 2) + "/") * height)
            self.assertEqual(self.ends_soon(cost, chart, rule), [32768])
            chart = text(("ba" * (width // 2) + "/") * (height - 1) + "." * width + "/")
            self.assertEqual(self.ends_soon(cost, chart, rule), [32768 - width // 2])

    def test_as_many_orbits_as_places(self):
        rows = "".join((COLOURS * 5)[number % 62:][:128] + "/" for number in range(512))
        self.assertEqual(self.ends_soon(cost, text(rows), text("0 0 0/" * 16)), [0])


if __name__ == "__main__":
    unittest.main()
