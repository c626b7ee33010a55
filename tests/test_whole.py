"""What the document says over the whole program: its interface, and each of its ways to get it wrong."""

import ast
import inspect
import pathlib
import unittest

import fieldmend
from fieldmend import desk
from fieldmend.desk import clash, cost, fill, judge, mend, of, rule, seeds, size
from helpers import CallTest, text, written

INTERFACE = {judge: ["t"], rule: ["r"], size: ["t", "r"], of: ["x", "y", "t", "r"], clash: ["t", "r"],
             fill: ["ground", "t", "r"], seeds: ["t", "r"], mend: ["t", "r"], cost: ["t", "r"]}


class Interface(CallTest):
    def test_names_and_arguments(self):
        for call, arguments in INTERFACE.items():
            self.assertEqual(list(inspect.signature(call).parameters), arguments)
            self.assertEqual(call.__module__, "fieldmend.desk")
            self.assertIs(getattr(desk, call.__name__), call)

    def test_by_the_names_of_the_arguments(self):
        handed = {"t": text("a../.../..b/"), "r": text("1 2 0/"), "x": 2, "y": 2, "ground": 0}
        answers = {judge: [7], rule: [1], size: [0, 3, 4, 1, 1], of: [0, 0, 0, 4, 2], clash: [0, 2, 2, 0, 0],
                   fill: [-9], seeds: [12] + text("a../.../.../"), mend: [12] + text("a.a/.../a.a/"), cost: [1]}
        for call, arguments in INTERFACE.items():
            self.assertEqual(call(**{name: handed[name] for name in arguments}), answers[call])

    def test_nothing_from_outside_is_imported(self):
        for path in pathlib.Path(fieldmend.__file__).parent.glob("*.py"):
            for node in ast.walk(ast.parse(path.read_text(encoding="utf-8"))):
                self.assertNotIsInstance(node, ast.Import)
                if isinstance(node, ast.ImportFrom):
                    self.assertTrue(node.module.startswith("fieldmend."), node.module)

    def test_one_answer_is_not_the_next_one_s(self):
        t, r = text("a../.../..a/"), text("1 2 0/")
        for call, arguments in INTERFACE.items():
            handed = {"t": t, "r": r, "x": 2, "y": 2, "ground": 0}
            first = call(**{name: handed[name] for name in arguments})
            kept = list(first)
            first.append(7)
            self.assertEqual(call(**{name: handed[name] for name in arguments}), kept)
        self.assertEqual((t, r), (text("a../.../..a/"), text("1 2 0/")))


class WaysToGetItWrong(CallTest):
    ROUND = "0 1 0/"

    def sized(self, chart, moves, *expected):
        self.check(size, (text(chart), text(moves)), list(expected))

    def gives(self, call, handed, expected):
        self.check(call, handed, [len(expected)] + text(expected))

    def test_the_last_knot_for_the_first(self):
        self.sized("abbb/", self.ROUND, 0, 1, 4, 1, 3)
        self.check(clash, (text("aab/"), text(self.ROUND)), [0, 2, 0, 0, 0])
        self.check(clash, (text(".ab/"), text(self.ROUND)), [0, 2, 0, 1, 0])

    def test_orbits_by_two_moves_alone(self):
        self.sized("a" * 30 + "/", "0 6 0/0 10 0/0 15 0/", 0, 1, 30, 1, 0)
        self.gives(fill, (0, text("a" + "." * 29 + "/"), text("0 6 0/0 10 0/0 15 0/")), "a" * 30 + "/")

    def test_clashes_with_neighbours_in_the_orbit(self):
        self.sized("abab/", self.ROUND, 0, 1, 4, 1, 2)
        self.sized("abbb/", self.ROUND, 0, 1, 4, 1, 3)
        self.check(clash, (text("aabc/"), text(self.ROUND)), [0, 2, 0, 0, 0])

    def test_ties_mended_to_the_greatest_colour(self):
        self.gives(mend, (text("ba/"), text(self.ROUND)), "aa/")
        self.gives(mend, (text("0Z/"), text(self.ROUND)), "ZZ/")
        self.gives(mend, (text("Ab/"), text(self.ROUND)), "bb/")

    def test_quarter_turn_on_a_ring_that_is_not_square(self):
        for m in (1, 3, 5, 7):
            for call, handed in ((size, ()), (of, (0, 0)), (clash, ()), (fill, (0,)), (seeds, ()), (mend, ()), (cost, ())):
                self.check(call, (*handed, text("ab/cd/ef/"), text(f"{m} 0 0/")), [-3])

    def test_missing_knots_counted_into_the_cost(self):
        self.check(cost, (text("a.../"), text(self.ROUND)), [0])
        self.check(cost, (text("ab../"), text(self.ROUND)), [1])

    def test_mending_that_fills_orbits_without_knots(self):
        self.gives(mend, (text("aa/../"), text(self.ROUND)), "aa/../")

    def test_a_seed_that_is_missing_taken_from_elsewhere(self):
        self.gives(seeds, (text(".a/"), text(self.ROUND)), "../")

    def test_ground_where_an_orbit_has_knots(self):
        self.gives(fill, (ord("c"), text(".a/../"), text(self.ROUND)), "aa/cc/")

    def test_the_turn_about_the_chart_s_middle(self):
        # About its middle 0 and 3 would go to one another, 1 and 2 too.
        self.gives(fill, (0, text("ab../"), text("2 0 0/")), "ab.b/")
        self.gives(fill, (0, text("ab../"), text("4 0 0/")), "ab.b/")
        self.gives(fill, (0, text("a/b/././"), text("6 0 0/")), "a/b/./b/")
        self.gives(fill, (0, text("ab./.../.../"), text("1 0 0/")), "abb/b../b../")


class AllNineCalls(CallTest):
    """One set of refused inputs for all."""

    CHART = "abc/def/"
    LONG_CHART = "a" * 66049
    LONG_RULE = "1 2 0/" * 43

    # A chart and a rule; what judge answers, what rule answers, what all the others answer.
    REFUSED = (
        (LONG_CHART, "", [-2], [0], [-2]),
        (LONG_CHART, LONG_RULE, [-2], [-2], [-2]),
        (LONG_CHART, "1 01 0/", [-2], [-6, 3], [-2]),
        (LONG_CHART, "1 0 0/", [-2], [1], [-2]),
        (CHART, LONG_RULE, [0], [-2], [-2]),
        ("abc/de/", LONG_RULE, [-6, 6], [-2], [-2]),
        ("abc/de/", "", [-6, 6], [0], [-6]),
        ("abc/de/", "1 01 0/", [-6, 6], [-6, 3], [-6]),
        ("abc/de/", "1 0 0/", [-6, 6], [1], [-6]),
        ("", "", [-6, 0], [0], [-6]),
        (CHART, "8 0 0/", [0], [-6, 0], [-6]),
        (CHART, "1 0 0/1 2", [0], [-6, 9], [-6]),
        (CHART, "1 0 0/", [0], [1], [-3]),
        (CHART, "0 1 0/7 0 0/", [0], [2], [-3]),
    )

    # What else could be refused there stands further back in the order.
    AHEAD = ((size, ()), (of, (0, 0)), (of, (3, 0)), (of, (0, 4294967295)), (clash, ()), (fill, (0,)), (fill, (97,)),
             (fill, (46,)), (fill, (4294967295,)), (seeds, ()), (mend, ()), (cost, ()))

    def test_the_first_in_the_order(self):
        for chart, moves, judged, ruled, refused in self.REFUSED:
            self.check(judge, (text(chart),), judged)
            self.check(rule, (text(moves),), ruled)
            for call, ahead in self.AHEAD:
                self.check(call, (*ahead, text(chart), text(moves)), refused)

    def test_behind_these_each_by_its_own(self):
        chart, moves = text("ab/ab/"), text("0 1 0/")
        self.check(fill, (46, chart, moves), [-1])
        self.check(of, (2, 0, chart, moves), [-4])
        self.check(fill, (97, chart, moves), [-9])
        self.check(clash, (text("aa/bb/"), moves), [-5])

    def test_texts_are_written_as_long_as_told(self):
        chart, moves = text("a./ab/"), text("0 1 0/")
        self.assertEqual(written(mend(chart, moves)), "aa/aa/")
        self.assertEqual(written(seeds(chart, moves)), "a./a./")


if __name__ == "__main__":
    unittest.main()
