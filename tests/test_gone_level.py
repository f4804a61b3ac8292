"""Point 2: gone and level."""

import unittest
from fractions import Fraction

from helper import LARGEST, ask, by_trapezes, fortieths, laid, last, rising


def sets(rows):
    return [("set", i, j, depth) for i, row in enumerate(rows) for j, depth in enumerate(row)]


class Gone(unittest.TestCase):
    base = laid(10, 4, 0, [50, 50], [[20, 30, 40], [50, 60, 70]])

    def told(self, *calls):
        return ask(*self.base, *calls)[len(self.base):]

    def test_nothing_marked(self):
        self.assertEqual(self.told(("gone",)), [[-6]])
        self.assertEqual(self.told(("dug", 0, 0, 5), ("gone",))[1], [-6])

    def test_nothing_marked_and_no_section(self):
        self.assertEqual(ask(self.base[0], ("gone",), ("mark",), ("gone",))[1:], [[-6], [-6], [-6]])

    def test_marked_just_now(self):
        self.assertEqual(self.told(("mark",), ("gone",)), [[2], [0, 0, 0, 0]])

    def test_deeper_points(self):
        # Twice the areas by what's deeper: 10 * (7 + 7), and none.
        self.assertEqual(self.told(("mark",), ("dug", 0, 1, 7), ("gone",))[2], [4 * 140 // 40, 0, 0, 0])

    def test_less_deep_points(self):
        self.assertEqual(self.told(("mark",), ("set", 1, 1, 53), ("gone",))[2], [0, 0, 4 * 140 // 40, 0])

    def test_deeper_and_less_deep_points_are_not_set_off(self):
        calls = [("mark",), ("set", 0, 0, 30), ("set", 0, 2, 37), ("set", 1, 1, 61), ("set", 1, 0, 45), ("gone",)]
        # Twice the areas: 10 * 10 and 10 * 2 gone, 10 * 3 and 10 * 5 come.
        self.assertEqual(self.told(*calls)[-1], [12, 0, 8, 0])

    def test_deeper_and_less_deep_in_one_section_alike(self):
        calls = laid(1, 40, 0, [0, 0], [[20, 20], [20, 20]])
        told = last(*calls, ("mark",), ("set", 0, 0, 25), ("set", 0, 1, 15), ("gone",))
        self.assertEqual(told, [5, 0, 5, 0])

    def test_silted(self):
        # Each point 25 less deep, but the first, which was at 20: twice the areas 10 * 95 and 10 * 100.
        self.assertEqual(self.told(("mark",), ("silt", 25), ("gone",))[2], [0, 0, 4 * 1950 // 40, 0])

    def test_silt_above_the_bottom_is_no_more_than_was_there(self):
        told = self.told(("mark",), ("silt", 400), ("gone",))[2]
        self.assertEqual(told, [0, 0, 4 * 10 * (50 + 70 + 110 + 130) // 40, 0])

    def test_swept(self):
        # 30, 20 and 10 deeper: twice the area 10 * (50 + 30).
        self.assertEqual(self.told(("mark",), ("sweep", 0, 400), ("gone",))[2], [80, 0, 0, 0])

    def test_marked_and_set_back(self):
        calls = [("mark",), ("set", 0, 0, 400), ("gone",), ("set", 0, 0, 20), ("gone",), ("state",)]
        told = self.told(*calls)
        self.assertEqual(told[2], [380, 0, 0, 0])
        self.assertEqual(told[4], [0, 0, 0, 0])
        self.assertEqual(told[5][-1], 1)

    def test_silted_and_dug_back(self):
        digs = [("dug", i, j, 3) for i in range(2) for j in range(3)]
        self.assertEqual(self.told(("mark",), ("silt", 3), *digs, ("gone",))[-1], [0, 0, 0, 0])

    def test_marked_twice(self):
        calls = [("mark",), ("dug", 0, 1, 7), ("mark",), ("gone",), ("set", 0, 1, 30), ("gone",)]
        told = self.told(*calls)
        self.assertEqual(told[3], [0, 0, 0, 0])
        self.assertEqual(told[5], [0, 0, 14, 0])

    def test_marked_then_a_second_begin(self):
        again = [("mark",), *self.base, ("gone",), ("mark",), ("dug", 0, 1, 7), ("gone",)]
        told = self.told(*again)
        self.assertEqual(told[4:], [[-6], [2], [37], [14, 0, 0, 0]])

    def test_marked_then_a_begin_that_is_refused(self):
        told = self.told(("mark",), ("dug", 0, 1, 7), ("begin", 1, 1, 1, 1), ("gone",))
        self.assertEqual(told[2:], [[-22], [14, 0, 0, 0]])

    def test_one_section_alone(self):
        base = laid(50, 100, 0, [50], [[20, 30, 40]])
        told = ask(*base, ("mark",), ("gone",), ("set", 0, 0, 400), ("gone",), ("silt", 400), ("gone",))[3:]
        self.assertEqual([told[0], told[2], told[4]], [[0, 0, 0, 0]] * 3)

    def test_designs_and_over_do_not_count(self):
        calls = laid(10, 4, 50, [0, 400], [[20, 30, 40], [50, 60, 70]])
        told = ask(*calls, ("mark",), ("dug", 0, 1, 7), ("design", 0, 399), ("design", 1, 1), ("gone",))
        self.assertEqual(told[-1], [14, 0, 0, 0])

    def test_fortieths_that_make_a_cubic_metre(self):
        base = laid(1, 1, 0, [0, 0], [[200, 100], [200, 100]])
        for by, told in [(1, [0, 1]), (39, [0, 39]), (40, [1, 0]), (41, [1, 1]), (79, [1, 39]), (80, [2, 0])]:
            with self.subTest(by=by):
                self.assertEqual(last(*base, ("mark",), ("dug", 0, 0, by), ("gone",)), told + [0, 0])
                self.assertEqual(last(*base, ("mark",), ("set", 0, 0, 200 - by), ("gone",)), [0, 0] + told)

    def test_fortieths_of_several_parts_make_a_cubic_metre(self):
        base = laid(1, 1, 0, [0, 0, 0], [[100, 100]] * 3)
        digs = [("set", i, 0, 110) for i in range(3)]
        self.assertEqual(last(*base, ("mark",), *digs, ("gone",)), [1, 0, 0, 0])
        silts = [("set", i, 0, 90) for i in range(3)]
        self.assertEqual(last(*base, ("mark",), *silts, ("gone",)), [0, 0, 1, 0])

    def test_fortieths_of_both_each_by_its_own(self):
        base = laid(1, 1, 0, [0, 0], [[100, 100]] * 2)
        told = last(*base, ("mark",), ("set", 0, 0, 125), ("set", 0, 1, 75), ("gone",))
        self.assertEqual(told, [0, 25, 0, 25])

    def test_first_and_last_area_count_once(self):
        base = laid(1, 1, 0, [0] * 4, [[100, 100]] * 4)
        for i, parts in [(0, 1), (1, 2), (2, 2), (3, 1)]:
            with self.subTest(i=i):
                self.assertEqual(last(*base, ("mark",), ("dug", i, 0, 1), ("gone",)), [0, parts, 0, 0])
                self.assertEqual(last(*base, ("mark",), ("set", i, 1, 99), ("gone",)), [0, 0, 0, parts])

    def test_largest(self):
        base = laid(50, 100, 0, [0] * 12, [[0] * 9] * 12)
        most = 11 * 100 * 2 * 50 * 8 * 800 // 40
        digs = [("set", i, j, 400) for i in range(12) for j in range(9)]
        told = ask(*base, ("mark",), *digs, ("gone",), ("mark",), ("silt", 400), ("gone",))
        self.assertEqual(told[-4], [most, 0, 0, 0])
        self.assertEqual(told[-1], [0, 0, most, 0])

    def test_as_a_surveyor_reckons(self):
        for sections, points in [(2, 2), (3, 5), (7, 3), (12, 9)]:
            then = rising(sections, points, 7 + sections)
            now = rising(sections, points, 8 + sections)
            went = [[max(0, b - a) for a, b in zip(*pair)] for pair in zip(then, now)]
            came = [[max(0, a - b) for a, b in zip(*pair)] for pair in zip(then, now)]
            with self.subTest(sections=sections, points=points):
                told = last(*laid(3, 7, 6, [9] * sections, then), ("mark",), *sets(now), ("gone",))
                self.assertEqual(Fraction(fortieths(told[:2]), 40), by_trapezes(3, 7, went))
                self.assertEqual(Fraction(fortieths(told[2:]), 40), by_trapezes(3, 7, came))
                self.assertTrue(told[1] < 40 and told[3] < 40)


class Level(unittest.TestCase):
    base = laid(10, 4, 3, [50, 60], [[20, 30, 40], [50, 60, 70]])

    def told(self, *calls):
        return ask(*self.base, *calls)[len(self.base):]

    def test_ordinary(self):
        # Where it's less deep than 35: 15, 5, 0 and 0, 0, 0. Than 60: 40, 30, 20 and 10, 0, 0.
        self.assertEqual(self.told(("level", 35), ("level", 60)), [[25, 0], [4 * (1200 + 100) // 40, 0]])

    def test_d_0(self):
        self.assertEqual(self.told(("level", 0)), [[0, 0]])
        self.assertEqual(last(*laid(10, 4, 3, [50, 60], [[0, 0], [0, 0]]), ("level", 0)), [0, 0])

    def test_d_400_and_above(self):
        told = self.told(("level", 400), ("level", 401), ("level", LARGEST))
        self.assertEqual(told, [[10 * 4 * (750 + 730 + 690 + 670) // 40, 0], [-22], [-22]])

    def test_above_400_without_sections(self):
        self.assertEqual(ask(self.base[0], ("level", 400), ("level", 401))[1:], [[0, 0], [-22]])

    def test_a_bottom_just_at_d(self):
        base = laid(1, 1, 0, [0, 0], [[50, 50], [50, 50]])
        told = ask(*base, ("level", 49), ("level", 50), ("level", 51))[3:]
        self.assertEqual(told, [[0, 0], [0, 0], [0, 4]])

    def test_no_section(self):
        self.assertEqual(ask(self.base[0], ("level", 0), ("level", 7))[1:], [[0, 0], [0, 0]])

    def test_one_section(self):
        self.assertEqual(last(*laid(50, 100, 0, [50], [[0, 0]]), ("level", 400)), [0, 0])

    def test_several_sections(self):
        base = laid(1, 1, 0, [0] * 4, [[10, 10]] * 4)
        for i, parts in [(0, 1), (1, 2), (2, 2), (3, 1)]:
            with self.subTest(i=i):
                self.assertEqual(last(*base, ("set", i, 0, 9), ("level", 10)), [0, parts])

    def test_fortieths_that_make_a_cubic_metre(self):
        base = laid(1, 1, 0, [0, 0], [[0, 400], [400, 400]])
        for d, told in [(1, [0, 1]), (39, [0, 39]), (40, [1, 0]), (41, [1, 1]), (79, [1, 39]), (80, [2, 0])]:
            with self.subTest(d=d):
                self.assertEqual(last(*base, ("level", d)), told)

    def test_fortieths_of_several_parts_make_a_cubic_metre(self):
        base = laid(1, 1, 0, [0, 0, 0], [[0, 400]] * 3)
        self.assertEqual(last(*base, ("level", 10)), [1, 0])

    def test_designs_over_and_mark_do_not_count(self):
        told = self.told(("mark",), ("design", 0, 0), ("design", 1, 400), ("level", 35))
        self.assertEqual(told[-1], [25, 0])

    def test_the_design_everywhere_is_the_volume(self):
        base = laid(3, 7, 2, [77] * 5, rising(5, 4, 11))
        told = ask(*base, ("level", 77), ("volume",))[-2:]
        self.assertEqual(told[0], told[1])
        self.assertNotEqual(told[0], [0, 0])

    def test_as_a_surveyor_reckons(self):
        for sections, points in [(2, 2), (3, 5), (7, 3), (12, 9)]:
            rows = rising(sections, points, 7 + sections)
            for d in (0, 1, 60, 121, 400):
                heights = [[max(0, d - x) for x in row] for row in rows]
                with self.subTest(sections=sections, points=points, d=d):
                    told = last(*laid(3, 7, 6, [9] * sections, rows), ("level", d))
                    self.assertEqual(Fraction(fortieths(told), 40), by_trapezes(3, 7, heights))
                    self.assertLess(told[1], 40)


if __name__ == "__main__":
    unittest.main()
