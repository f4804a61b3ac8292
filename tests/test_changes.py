"""Point 1: set, design, dug, sweep, silt and mark."""

import unittest

from helper import LARGEST, ask, depths_after, last

BASE = [("begin", 3, 1, 1, 0), ("section", 50, [10, 50, 60]), ("section", 40, [0, 39, 400])]


def depths(*calls):
    return depths_after(BASE + list(calls), 2, 3)


def told(*calls):
    return ask(*BASE, *calls)[len(BASE):]


class SetDepth(unittest.TestCase):
    def test_answers_what_it_was(self):
        self.assertEqual(told(("set", 1, 1, 12), ("set", 1, 1, 13), ("set", 0, 2, 0)), [[39], [12], [60]])

    def test_only_that_point(self):
        self.assertEqual(depths(("set", 1, 1, 12)), [[10, 50, 60], [0, 12, 400]])

    def test_edges_of_the_depth(self):
        self.assertEqual(told(("set", 0, 0, 0), ("set", 0, 0, 400), ("set", 0, 0, 401), ("set", 0, 0, LARGEST),
                              ("set", 0, 0, 1)), [[10], [0], [-22], [-22], [400]])

    def test_no_such_section_or_point(self):
        for i, j in [(2, 0), (0, 3), (2, 3), (LARGEST, 0), (0, LARGEST), (LARGEST, LARGEST)]:
            with self.subTest(i=i, j=j):
                self.assertEqual(told(("set", i, j, 5)), [[-2]])

    def test_without_sections(self):
        self.assertEqual(ask(BASE[0], ("set", 0, 0, 5)), [[0], [-2]])

    def test_behind_a_mark(self):
        self.assertEqual(told(("mark",), ("set", 0, 0, 5), ("set", 0, 0, 10)), [[2], [10], [5]])


class SetDesign(unittest.TestCase):
    def test_answers_what_it_was(self):
        self.assertEqual(told(("design", 0, 12), ("design", 0, 13), ("design", 1, 0)), [[50], [12], [40]])

    def test_edges_of_the_depth(self):
        self.assertEqual(told(("design", 1, 0), ("design", 1, 400), ("design", 1, 401), ("design", 1, LARGEST),
                              ("design", 1, 1)), [[40], [0], [-22], [-22], [400]])

    def test_no_such_section(self):
        self.assertEqual(told(("design", 2, 5), ("design", LARGEST, 5)), [[-2], [-2]])

    def test_counts_for_what_is_to_be_dug(self):
        self.assertEqual(told(("design", 0, 70), ("area", 0), ("area", 1)), [[50], [110, 0], [42, 360]])

    def test_depths_stay(self):
        self.assertEqual(depths(("design", 0, 0)), [[10, 50, 60], [0, 39, 400]])


class Dug(unittest.TestCase):
    def test_answers_how_deep(self):
        self.assertEqual(told(("dug", 0, 0, 1), ("dug", 0, 0, 30), ("dug", 1, 0, 5)), [[11], [41], [5]])

    def test_only_that_point(self):
        self.assertEqual(depths(("dug", 0, 1, 7)), [[10, 57, 60], [0, 39, 400]])

    def test_to_just_the_deepest(self):
        self.assertEqual(told(("dug", 0, 0, 391), ("dug", 0, 0, 390), ("dug", 0, 0, 1)), [[-22], [400], [-22]])
        self.assertEqual(told(("dug", 1, 0, 401), ("dug", 1, 0, 400)), [[-22], [400]])

    def test_by_none(self):
        self.assertEqual(told(("dug", 0, 0, 0), ("dug", 1, 2, 0)), [[-22], [-22]])

    def test_by_very_much(self):
        self.assertEqual(told(("dug", 0, 0, LARGEST), ("dug", 1, 0, LARGEST)), [[-22], [-22]])

    def test_no_such_section_or_point(self):
        for i, j in [(2, 0), (0, 3), (2, 3), (LARGEST, 0), (0, LARGEST), (LARGEST, LARGEST)]:
            with self.subTest(i=i, j=j):
                self.assertEqual(told(("dug", i, j, 5)), [[-2]])


class Sweep(unittest.TestCase):
    def test_stops_at_the_design(self):
        self.assertEqual(told(("sweep", 0, 400)), [[1]])
        self.assertEqual(depths(("sweep", 0, 400)), [[50, 50, 60], [0, 39, 400]])
        self.assertEqual(depths(("sweep", 0, 41)), [[50, 50, 60], [0, 39, 400]])

    def test_just_to_the_design(self):
        self.assertEqual(depths(("sweep", 0, 40)), [[50, 50, 60], [0, 39, 400]])

    def test_short_of_the_design(self):
        self.assertEqual(depths(("sweep", 0, 39)), [[49, 50, 60], [0, 39, 400]])

    def test_counts_the_points_that_were_less_deep(self):
        self.assertEqual(told(("sweep", 1, 1), ("sweep", 1, 1), ("sweep", 1, 38), ("sweep", 1, 1)),
                         [[2], [1], [1], [0]])
        self.assertEqual(depths(("sweep", 1, 1)), [[10, 50, 60], [1, 40, 400]])

    def test_edges_of_n(self):
        self.assertEqual(told(("sweep", 1, 0), ("sweep", 1, 401), ("sweep", 1, LARGEST), ("sweep", 1, 400)),
                         [[-22], [-22], [-22], [2]])

    def test_from_0_to_400(self):
        calls = [("design", 1, 400), ("sweep", 1, 400)]
        self.assertEqual(told(*calls), [[40], [2]])
        self.assertEqual(depths(*calls)[1], [400, 400, 400])

    def test_no_such_section(self):
        self.assertEqual(told(("sweep", 2, 5), ("sweep", LARGEST, 5)), [[-2], [-2]])

    def test_design_of_0(self):
        self.assertEqual(told(("design", 1, 0), ("sweep", 1, 5)), [[40], [0]])

    def test_never_goes_too_deep(self):
        for n in (1, 5, 39, 40, 41, 400):
            before = told(("area", 0), ("area", 1))
            after = told(("sweep", 0, n), ("sweep", 1, n), ("area", 0), ("area", 1))[2:]
            for i in range(2):
                with self.subTest(n=n, i=i):
                    self.assertEqual(after[i][1], before[i][1])
                    self.assertLess(after[i][0], before[i][0])


class Silt(unittest.TestCase):
    def test_every_point_of_every_section(self):
        self.assertEqual(told(("silt", 5)), [[5]])
        self.assertEqual(depths(("silt", 5)), [[5, 45, 55], [0, 34, 395]])

    def test_by_just_its_depth_and_more(self):
        self.assertEqual(depths(("silt", 10)), [[0, 40, 50], [0, 29, 390]])
        self.assertEqual(depths(("silt", 11)), [[0, 39, 49], [0, 28, 389]])
        self.assertEqual(told(("silt", 10), ("silt", 1), ("silt", 39)), [[5], [4], [4]])

    def test_edges_of_n(self):
        self.assertEqual(told(("silt", 0), ("silt", 401), ("silt", LARGEST), ("silt", 1), ("silt", 400), ("silt", 1)),
                         [[-22], [-22], [-22], [5], [5], [0]])
        self.assertEqual(depths(("silt", 400)), [[0, 0, 0], [0, 0, 0]])

    def test_without_sections(self):
        self.assertEqual(ask(BASE[0], ("silt", 1), ("silt", 0)), [[0], [0], [-22]])

    def test_designs_stay(self):
        self.assertEqual(told(("silt", 20), ("design", 0, 0), ("design", 1, 0))[1:], [[50], [40]])

    def test_counts_for_what_is_to_be_dug(self):
        self.assertEqual(told(("silt", 5), ("area", 0)), [[5], [(45 + 5) + (5 + 0), (0 + 0) + (0 + 5)]])


class Mark(unittest.TestCase):
    def test_how_many_sections(self):
        self.assertEqual(told(("mark",)), [[2]])
        self.assertEqual(ask(BASE[0], BASE[1], ("mark",))[-1], [1])
        self.assertEqual(last(BASE[0], *[BASE[1]] * 12, ("mark",)), [12])

    def test_without_sections(self):
        self.assertEqual(ask(BASE[0], ("mark",)), [[0], [-6]])

    def test_again(self):
        self.assertEqual(told(("mark",), ("mark",), ("section", 5, [1, 2, 3])), [[2], [2], [-16]])

    def test_depths_stay_and_may_change(self):
        self.assertEqual(depths(("mark",)), [[10, 50, 60], [0, 39, 400]])
        self.assertEqual(told(("mark",), ("dug", 0, 0, 1), ("sweep", 1, 1), ("silt", 1), ("design", 0, 1)),
                         [[2], [11], [2], [6], [50]])

    def test_what_is_marked_does_not_change_with_the_depths(self):
        # 40 m apart, so that gone and come are told in whole cubic metres: those of one point at the end.
        base = [("begin", 2, 1, 40, 0), ("section", 5, [1, 2]), ("section", 5, [1, 2]), ("mark",)]
        told = ask(*base, ("dug", 0, 0, 30), ("gone",), ("mark",), ("gone",), ("dug", 0, 0, 4), ("gone",))[4:]
        self.assertEqual(told, [[31], [30, 0, 0, 0], [2], [0, 0, 0, 0], [35], [4, 0, 0, 0]])

    def test_a_survey_set_back_is_still_marked(self):
        self.assertEqual(told(("mark",), ("set", 0, 0, 5), ("set", 0, 0, 10), ("section", 5, [1, 2, 3])),
                         [[2], [10], [5], [-16]])


if __name__ == "__main__":
    unittest.main()
