"""Point 3: least, bar, high, clear, cleared, wide and worst."""

import unittest

from helper import LARGEST, ask, laid, last, rising

START = ("begin", 5, 1, 1, 0)


def of_one(d, depths, call):
    """What the call answers of a survey that has this section alone."""
    return last(("begin", len(depths), 1, 1, 0), ("section", d, depths), call)


class Least(unittest.TestCase):
    def test_at_each_point(self):
        for j in range(5):
            depths = [50] * 5
            depths[j] = 7
            with self.subTest(j=j):
                self.assertEqual(of_one(30, depths, ("least", 0)), [7, j])

    def test_at_several_points(self):
        self.assertEqual(of_one(30, [9, 4, 8, 4, 4], ("least", 0)), [4, 1])
        self.assertEqual(of_one(30, [4, 9, 8, 4, 9], ("least", 0)), [4, 0])

    def test_all_alike(self):
        for depth in (0, 7, 400):
            self.assertEqual(of_one(30, [depth] * 9, ("least", 0)), [depth, 0])

    def test_each_section_by_itself(self):
        calls = laid(1, 1, 0, [9, 9, 9], [[5, 3], [8, 9], [2, 2]])
        self.assertEqual(ask(*calls, ("least", 0), ("least", 1), ("least", 2))[4:], [[3, 1], [8, 0], [2, 0]])

    def test_design_does_not_count(self):
        for d in (0, 5, 400):
            self.assertEqual(of_one(d, [5, 3, 6], ("least", 0)), [3, 1])

    def test_as_it_is_now(self):
        calls = laid(1, 1, 0, [9], [[5, 3, 8]])
        told = ask(*calls, ("dug", 0, 1, 9), ("least", 0), ("silt", 6), ("least", 0))[2:]
        self.assertEqual(told, [[12], [5, 0], [3], [0, 0]])

    def test_no_such_section(self):
        self.assertEqual(ask(START, ("least", 0)), [[0], [-2]])
        for i in (1, 2, 12, LARGEST):
            self.assertEqual(of_one(9, [1, 2], ("least", i)), [-2])


class Bar(unittest.TestCase):
    def test_at_each_place(self):
        for i in range(4):
            for j in range(3):
                rows = [[50] * 3 for row in range(4)]
                rows[i][j] = 7
                with self.subTest(i=i, j=j):
                    self.assertEqual(last(*laid(1, 1, 0, [9] * 4, rows), ("bar",)), [7, i, j])

    def test_at_several_places(self):
        rows = [[9, 9, 9], [9, 4, 4], [4, 9, 9], [9, 9, 4]]
        self.assertEqual(last(*laid(1, 1, 0, [9] * 4, rows), ("bar",)), [4, 1, 1])

    def test_first_section_ahead_of_first_point(self):
        self.assertEqual(last(*laid(1, 1, 0, [9, 9], [[9, 9, 4], [4, 4, 4]]), ("bar",)), [4, 0, 2])

    def test_all_alike(self):
        for depth in (0, 7, 400):
            self.assertEqual(last(*laid(1, 1, 0, [9] * 12, [[depth] * 9] * 12), ("bar",)), [depth, 0, 0])

    def test_one_section(self):
        self.assertEqual(of_one(9, [5, 3, 8], ("bar",)), [3, 0, 1])

    def test_no_section(self):
        self.assertEqual(ask(START, ("bar",)), [[0], [-6]])
        self.assertEqual(last(START, ("section", 9, [1] * 5), START, ("bar",)), [-6])


class HighAndClear(unittest.TestCase):
    def told(self, d, depths):
        calls = laid(1, 1, 0, [d], [depths])
        return ask(*calls, ("high", 0), ("clear", 0), ("cleared",))[2:]

    def test_no_point(self):
        self.assertEqual(self.told(50, [51, 60, 400]), [[0], [1], [1, 0]])

    def test_some_points(self):
        self.assertEqual(self.told(50, [49, 60, 0, 51]), [[2, 0, 2], [0], [0]])
        self.assertEqual(self.told(50, [60, 60, 60, 49]), [[1, 3], [0], [0]])
        self.assertEqual(self.told(50, [49, 60, 60, 60]), [[1, 0], [0], [0]])

    def test_all_points(self):
        self.assertEqual(self.told(50, [49, 0, 7]), [[3, 0, 1, 2], [0], [0]])
        self.assertEqual(self.told(400, [0] * 9), [[9, 0, 1, 2, 3, 4, 5, 6, 7, 8], [0], [0]])

    def test_just_as_deep_as_the_design(self):
        self.assertEqual(self.told(50, [50, 50]), [[0], [1], [1, 0]])
        self.assertEqual(self.told(50, [49, 50, 51]), [[1, 0], [0], [0]])
        self.assertEqual(self.told(400, [400, 400]), [[0], [1], [1, 0]])

    def test_design_of_0(self):
        self.assertEqual(self.told(0, [0, 0, 1]), [[0], [1], [1, 0]])

    def test_over_does_not_count(self):
        calls = laid(1, 1, 50, [50], [[49, 50]])
        self.assertEqual(ask(*calls, ("high", 0), ("clear", 0))[2:], [[1, 0], [0]])

    def test_each_section_by_its_own_design(self):
        calls = laid(1, 1, 0, [10, 20], [[10, 15], [10, 25]])
        told = ask(*calls, ("high", 0), ("high", 1), ("clear", 0), ("clear", 1))[3:]
        self.assertEqual(told, [[0], [1, 0], [1], [0]])

    def test_swept_it_is_clear(self):
        calls = laid(1, 1, 0, [50], [[49, 0, 7]])
        told = ask(*calls, ("sweep", 0, 49), ("clear", 0), ("sweep", 0, 1), ("clear", 0), ("high", 0))[2:]
        self.assertEqual(told, [[3], [0], [1], [1], [0]])

    def test_no_such_section(self):
        for name in ("high", "clear"):
            self.assertEqual(ask(START, (name, 0)), [[0], [-2]])
            for i in (1, 2, 12, LARGEST):
                self.assertEqual(of_one(9, [1, 2], (name, i)), [-2])


class Cleared(unittest.TestCase):
    def test_no_section_at_all(self):
        self.assertEqual(ask(START, ("cleared",)), [[0], [0]])

    def test_none_some_and_all(self):
        base = laid(1, 1, 0, [50] * 4, [[49, 60]] * 4)
        told = ask(*base, ("cleared",), ("sweep", 2, 1), ("cleared",), ("sweep", 0, 1), ("cleared",), ("sweep", 3, 1),
                   ("sweep", 1, 1), ("cleared",))[5:]
        self.assertEqual([told[0], told[2], told[4], told[7]], [[0], [1, 2], [2, 0, 2], [4, 0, 1, 2, 3]])

    def test_twelve(self):
        base = laid(1, 1, 0, [0] * 12, [[0, 0]] * 12)
        self.assertEqual(last(*base, ("cleared",)), [12] + list(range(12)))

    def test_the_last_alone(self):
        base = laid(1, 1, 0, [400] * 11 + [50], [[50, 50]] * 12)
        self.assertEqual(last(*base, ("cleared",)), [1, 11])

    def test_as_clear_tells(self):
        rows = rising(9, 2, 13)
        calls = laid(1, 1, 0, [20 + 5 * i for i in range(9)], rows)
        told = ask(*calls, *[("clear", i) for i in range(9)], ("cleared",))[10:]
        found = [i for i in range(9) if told[i] == [1]]
        self.assertEqual(told[-1], [len(found)] + found)
        self.assertTrue(0 < len(found) < 9)


class Wide(unittest.TestCase):
    def test_d_0(self):
        for points in range(2, 10):
            self.assertEqual(of_one(9, [0] * points, ("wide", 0, 0)), [points])

    def test_d_above_every_depth(self):
        for d in (61, 400, 401, 65536, LARGEST):
            self.assertEqual(of_one(9, [60, 60, 10], ("wide", 0, d)), [0])
        self.assertEqual(of_one(9, [400, 400], ("wide", 0, 401)), [0])

    def test_just_d_deep(self):
        told = [of_one(9, [30, 30, 10], ("wide", 0, d)) for d in (29, 30, 31)]
        self.assertEqual(told, [[2], [2], [0]])
        self.assertEqual(of_one(9, [400, 400], ("wide", 0, 400)), [2])

    def test_where_the_row_stands(self):
        for start in range(7):
            depths = [10] * start + [30, 40, 30] + [29] * (6 - start)
            with self.subTest(depths=depths):
                self.assertEqual(of_one(9, depths, ("wide", 0, 30)), [3])

    def test_one_point_alone(self):
        for j in range(4):
            depths = [10] * 4
            depths[j] = 30
            self.assertEqual(of_one(9, depths, ("wide", 0, 30)), [1])

    def test_two_rows_as_long(self):
        self.assertEqual(of_one(9, [30, 30, 0, 30, 30], ("wide", 0, 30)), [2])
        self.assertEqual(of_one(9, [0, 30, 30, 0, 30, 30, 0], ("wide", 0, 30)), [2])

    def test_the_longer_row_first_or_last(self):
        self.assertEqual(of_one(9, [30, 30, 30, 0, 30, 30], ("wide", 0, 30)), [3])
        self.assertEqual(of_one(9, [30, 30, 0, 30, 30, 30], ("wide", 0, 30)), [3])

    def test_not_all_that_are_so_deep(self):
        self.assertEqual(of_one(9, [30, 0, 30, 0, 30, 0, 30, 0, 30], ("wide", 0, 30)), [1])

    def test_that_section_and_by_no_design(self):
        calls = laid(1, 1, 0, [400, 0], [[30, 10, 10], [30, 30, 10]])
        self.assertEqual(ask(*calls, ("wide", 0, 30), ("wide", 1, 30))[3:], [[1], [2]])

    def test_against_every_row_there_is(self):
        for depths in rising(20, 9, 17):
            for d in (0, 20, 40, 60, 80, 100, 121):
                rows = [k - i for i in range(10) for k in range(i, 10) if all(x >= d for x in depths[i:k])]
                self.assertEqual(of_one(9, depths, ("wide", 0, d)), [max(rows)])

    def test_no_such_section(self):
        self.assertEqual(ask(START, ("wide", 0, 0)), [[0], [-2]])
        for i in (1, 2, 12, LARGEST):
            for d in (0, 401, LARGEST):
                self.assertEqual(of_one(9, [1, 2], ("wide", i, d)), [-2])


class Worst(unittest.TestCase):
    def test_one_section(self):
        self.assertEqual(last(*laid(3, 7, 0, [50], [[40, 30, 60]]), ("worst",)), [0, 3 * (30 + 20)])

    def test_each_place(self):
        for i in range(5):
            rows = [[40, 40] for row in range(5)]
            rows[i] = [40, 39]
            with self.subTest(i=i):
                self.assertEqual(last(*laid(3, 7, 0, [50] * 5, rows), ("worst",)), [i, 3 * 21])

    def test_sections_alike(self):
        self.assertEqual(last(*laid(3, 7, 0, [50] * 3, [[40, 40]] * 3), ("worst",)), [0, 60])
        rows = [[49, 49], [40, 30], [30, 40], [50, 20]]
        self.assertEqual(last(*laid(1, 7, 0, [50] * 4, rows), ("worst",)), [1, 30])

    def test_nothing_to_be_dug_anywhere(self):
        self.assertEqual(last(*laid(3, 7, 0, [50] * 3, [[50, 400]] * 3), ("worst",)), [0, 0])
        self.assertEqual(of_one(0, [0, 0], ("worst",)), [0, 0])

    def test_by_each_ones_own_design(self):
        self.assertEqual(last(*laid(1, 7, 0, [50, 100], [[0, 0], [49, 49]]), ("worst",)), [1, 102])

    def test_by_area_and_not_by_the_highest_point(self):
        # A point at the end counts once, one between others twice.
        rows = [[10, 50, 50], [50, 25, 50]]
        self.assertEqual(last(*laid(1, 7, 0, [50, 50], rows), ("worst",)), [1, 50])

    def test_too_deep_does_not_count(self):
        self.assertEqual(last(*laid(1, 7, 0, [50, 50], [[49, 50], [50, 400]]), ("worst",)), [0, 1])

    def test_largest(self):
        self.assertEqual(last(*laid(50, 100, 50, [0, 400], [[0] * 9] * 2), ("worst",)), [1, 50 * 8 * 800])

    def test_as_area_tells(self):
        calls = laid(3, 7, 2, [60] * 12, rising(12, 9, 17))
        told = ask(*calls, *[("area", i) for i in range(12)], ("worst",))[13:]
        most = max(told[i][0] for i in range(12))
        self.assertEqual(told[-1], [[told[i][0] for i in range(12)].index(most), most])

    def test_no_section(self):
        self.assertEqual(ask(START, ("worst",)), [[0], [-6]])
        self.assertEqual(last(START, ("section", 9, [1] * 5), START, ("worst",)), [-6])


if __name__ == "__main__":
    unittest.main()
