"""Point 2: area, volume, between and wasted; and what holds of them."""

import unittest
from fractions import Fraction

from helper import LARGEST, ask, by_trapezes, fortieths, laid, last, rising


class Area(unittest.TestCase):
    def test_ordinary(self):
        # 40, 20, 0 to be dug; 0, 0, 15 too deep.
        told = last(("begin", 3, 10, 1, 5), ("section", 50, [10, 30, 70]), ("area", 0))
        self.assertEqual(told, [10 * (60 + 20), 10 * (0 + 15)])

    def test_two_points(self):
        self.assertEqual(last(("begin", 2, 3, 1, 0), ("section", 9, [4, 11]), ("area", 0)), [15, 6])

    def test_points_at_the_ends_count_once(self):
        start = ("begin", 4, 1, 1, 0)
        for depths, twice in [([9, 10, 10, 10], 1), ([10, 9, 10, 10], 2), ([10, 10, 9, 10], 2), ([10, 10, 10, 9], 1)]:
            with self.subTest(depths=depths):
                self.assertEqual(last(start, ("section", 10, depths), ("area", 0)), [twice, 0])

    def test_just_as_deep_as_the_design(self):
        self.assertEqual(last(("begin", 2, 1, 1, 0), ("section", 50, [50, 50]), ("area", 0)), [0, 0])
        self.assertEqual(last(("begin", 2, 1, 1, 0), ("section", 50, [49, 51]), ("area", 0)), [1, 1])

    def test_deeper_than_design_and_over_by_one(self):
        for depth, twice in [(50, 0), (51, 0), (57, 0), (58, 1), (59, 2)]:
            with self.subTest(depth=depth):
                told = last(("begin", 2, 1, 1, 7), ("section", 50, [50, depth]), ("area", 0))
                self.assertEqual(told, [0, twice])

    def test_over_does_not_count_for_what_is_to_be_dug(self):
        self.assertEqual(last(("begin", 2, 1, 1, 50), ("section", 50, [49, 50]), ("area", 0)), [1, 0])

    def test_how_far_sections_are_apart_does_not_count(self):
        self.assertEqual(last(("begin", 2, 1, 100, 0), ("section", 50, [49, 51]), ("area", 0)), [1, 1])

    def test_largest(self):
        told = ask(("begin", 9, 50, 100, 0), ("section", 400, [0] * 9), ("section", 0, [400] * 9), ("area", 0),
                   ("area", 1))
        self.assertEqual(told[3:], [[50 * 8 * 800, 0], [0, 50 * 8 * 800]])

    def test_each_section_by_its_own_design(self):
        told = ask(("begin", 2, 1, 1, 0), ("section", 10, [0, 0]), ("section", 3, [0, 0]), ("area", 1), ("area", 0))
        self.assertEqual(told[3:], [[6, 0], [20, 0]])

    def test_no_such_section(self):
        start = ("begin", 2, 1, 1, 0)
        self.assertEqual(ask(start, ("area", 0)), [[0], [-2]])
        self.assertEqual(ask(start, ("section", 5, [1, 2]), ("area", 1), ("area", LARGEST))[2:], [[-2], [-2]])


class VolumeAndWasted(unittest.TestCase):
    def test_without_sections(self):
        self.assertEqual(ask(("begin", 2, 1, 1, 0), ("volume",), ("wasted",)), [[0], [0, 0], [0, 0]])

    def test_one_section_alone(self):
        told = ask(("begin", 2, 50, 100, 0), ("section", 200, [0, 400]), ("volume",), ("wasted",))
        self.assertEqual(told[2:], [[0, 0], [0, 0]])

    def test_two_sections(self):
        # Twice the areas: 10 * 50 and 10 * 30 to be dug.
        told = ask(("begin", 2, 10, 7, 0), ("section", 50, [20, 30]), ("section", 50, [40, 30]), ("volume",))
        self.assertEqual(told[3], [7 * (500 + 300) // 40, 0])

    def test_fortieths_that_make_a_cubic_metre(self):
        for depth, told in [(39, [0, 39]), (40, [1, 0]), (41, [1, 1]), (80, [2, 0])]:
            with self.subTest(depth=depth):
                rows = [("section", depth, [0, depth]), ("section", 0, [0, 0])]
                self.assertEqual(last(("begin", 2, 1, 1, 0), *rows, ("volume",)), told)
                rows = [("section", 0, [0, depth]), ("section", 0, [0, 0])]
                self.assertEqual(last(("begin", 2, 1, 1, 0), *rows, ("wasted",)), told)

    def test_fortieths_of_several_parts_make_a_cubic_metre(self):
        calls = [("begin", 2, 1, 1, 0), ("section", 10, [0, 10]), ("section", 10, [0, 10]), ("section", 10, [0, 10])]
        told = ask(*calls, ("between", 0, 1), ("between", 1, 2), ("volume",))
        self.assertEqual(told[4:], [[0, 20], [0, 20], [1, 0]])

    def test_first_and_last_area_count_once(self):
        start = ("begin", 2, 1, 1, 0)
        for place, parts in [(0, 1), (1, 2), (2, 2), (3, 1)]:
            rows = [("section", 10, [10, 9] if i == place else [10, 10]) for i in range(4)]
            deep = [("section", 10, [10, 11] if i == place else [10, 10]) for i in range(4)]
            with self.subTest(place=place):
                self.assertEqual(ask(start, *rows, ("volume",), ("wasted",))[5:], [[0, parts], [0, 0]])
                self.assertEqual(ask(start, *deep, ("volume",), ("wasted",))[5:], [[0, 0], [0, parts]])

    def test_just_as_deep_as_the_design(self):
        calls = laid(50, 100, 0, [50, 60], [[50, 50], [60, 60]])
        self.assertEqual(ask(*calls, ("volume",), ("wasted",))[3:], [[0, 0], [0, 0]])

    def test_wasted_is_over_by_one(self):
        for depth, told in [(57, [0, 0]), (58, [0, 1])]:
            with self.subTest(depth=depth):
                calls = laid(1, 1, 7, [50, 50], [[50, depth], [50, 50]])
                self.assertEqual(last(*calls, ("wasted",)), told)

    def test_what_is_to_be_dug_is_not_set_off_against_what_is_too_deep(self):
        calls = laid(1, 40, 0, [50, 50], [[40, 60], [60, 40]])
        self.assertEqual(ask(*calls, ("volume",), ("wasted",))[3:], [[20, 0], [20, 0]])

    def test_largest(self):
        calls = laid(50, 100, 0, [400] * 12, [[0] * 9] * 12)
        self.assertEqual(last(*calls, ("volume",)), [11 * 100 * 2 * 50 * 8 * 800 // 40, 0])
        calls = laid(50, 100, 0, [0] * 12, [[400] * 9] * 12)
        self.assertEqual(last(*calls, ("wasted",)), [11 * 100 * 2 * 50 * 8 * 800 // 40, 0])

    def test_as_a_surveyor_reckons(self):
        for sections in (2, 3, 7, 12):
            for points in (2, 3, 9):
                rows = rising(sections, points, 7 + sections)
                designs = [40 + 3 * i for i in range(sections)]
                dig = [[max(0, d - x) for x in row] for d, row in zip(designs, rows)]
                deep = [[max(0, x - d - 6) for x in row] for d, row in zip(designs, rows)]
                with self.subTest(sections=sections, points=points):
                    told = ask(*laid(3, 7, 6, designs, rows), ("volume",), ("wasted",))[-2:]
                    self.assertEqual(Fraction(fortieths(told[0]), 40), by_trapezes(3, 7, dig))
                    self.assertEqual(Fraction(fortieths(told[1]), 40), by_trapezes(3, 7, deep))
                    self.assertTrue(told[0][1] < 40 and told[1][1] < 40)


class Between(unittest.TestCase):
    rows = rising(6, 4, 11)
    base = laid(3, 7, 2, [60, 70, 80, 90, 60, 70], rows)

    def told(self, *calls):
        return ask(*self.base, *calls)[len(self.base):]

    def test_ordinary(self):
        calls = laid(1, 1, 0, [50, 50, 50], [[0, 0], [30, 40], [45, 50]])
        told = ask(*calls, ("between", 0, 1), ("between", 1, 2), ("between", 0, 2))[4:]
        self.assertEqual(told, [[3, 10], [0, 35], [4, 5]])

    def test_all_is_the_volume(self):
        told = self.told(("between", 0, 5), ("volume",))
        self.assertEqual(told[0], told[1])
        self.assertNotEqual(told[0], [0, 0])

    def test_parts_are_the_whole(self):
        for first in range(6):
            for end in range(first + 1, 6):
                steps = [("between", i, i + 1) for i in range(first, end)]
                told = self.told(("between", first, end), *steps)
                with self.subTest(first=first, end=end):
                    self.assertEqual(fortieths(told[0]), sum(fortieths(part) for part in told[1:]))

    def test_others_do_not_count(self):
        before = self.told(("between", 2, 4))
        after = self.told(("set", 1, 0, 0), ("set", 5, 0, 0), ("design", 0, 400), ("between", 2, 4))
        self.assertEqual(after[-1:], before)

    def test_the_same_one(self):
        for i in range(6):
            self.assertEqual(self.told(("between", i, i)), [[-22]])

    def test_the_wrong_way_round(self):
        self.assertEqual(self.told(("between", 1, 0), ("between", 5, 0), ("between", 5, 4)), [[-22]] * 3)

    def test_no_such_section(self):
        for i, k in [(0, 6), (6, 0), (6, 7), (6, 6), (7, 6), (0, LARGEST), (LARGEST, 0), (LARGEST, LARGEST)]:
            with self.subTest(i=i, k=k):
                self.assertEqual(self.told(("between", i, k)), [[-2]])

    def test_one_section_alone(self):
        told = ask(("begin", 2, 1, 1, 0), ("section", 9, [0, 0]), ("between", 0, 0), ("between", 0, 1))
        self.assertEqual(told[2:], [[-22], [-2]])

    def test_without_sections(self):
        self.assertEqual(last(("begin", 2, 1, 1, 0), ("between", 0, 0)), [-2])


class WhatHolds(unittest.TestCase):
    base = laid(3, 7, 2, [60, 70, 80, 90], rising(4, 5, 13))

    def test_dug_deeper_there_is_no_more_to_be_dug(self):
        before = ask(*self.base, ("volume",), ("wasted",))[-2:]
        for i in range(4):
            for j in range(5):
                for n in (1, 40, 200):
                    after = ask(*self.base, ("dug", i, j, n), ("volume",), ("wasted",))[-2:]
                    with self.subTest(i=i, j=j, n=n):
                        self.assertLessEqual(fortieths(after[0]), fortieths(before[0]))
                        self.assertGreaterEqual(fortieths(after[1]), fortieths(before[1]))

    def test_a_sweep_never_goes_too_deep(self):
        before = last(*self.base, ("wasted",))
        for n in (1, 13, 400):
            sweeps = [("sweep", i, n) for i in range(4)]
            self.assertEqual(last(*self.base, *sweeps, ("wasted",)), before)

    def test_swept_wholly_nothing_is_to_be_dug(self):
        sweeps = [("sweep", i, 400) for i in range(4)]
        self.assertEqual(last(*self.base, *sweeps, ("volume",)), [0, 0])
        again = ask(*self.base, *sweeps, *sweeps)[-4:]
        self.assertEqual(again, [[0]] * 4)

    def test_looking_changes_nothing(self):
        looks = [("area", 1), ("volume",), ("between", 0, 3), ("wasted",)]
        told = ask(*self.base, *looks, *looks)[-8:]
        self.assertEqual(told[:4], told[4:])


if __name__ == "__main__":
    unittest.main()
