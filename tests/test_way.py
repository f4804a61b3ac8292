"""Point 4: way; and c of what holds."""

import itertools
import unittest

from helper import LARGEST, Draw, ask, laid, last, rising

START = ("begin", 3, 1, 1, 0)


def told(rows, k):
    return last(*laid(1, 1, 0, [0] * len(rows), rows), ("way", k))


def all_ways(rows, k):
    """Every way there is, in the order of their points."""
    for points in itertools.product(range(len(rows[0])), repeat=len(rows)):
        if all(abs(a - b) <= k for a, b in zip(points, points[1:])):
            yield points


def deepest(rows, k):
    best = None
    for points in all_ways(rows, k):
        deep = min(row[j] for row, j in zip(rows, points))
        if best is None or deep > best[0]:
            best = [deep, *points]
    return best


class Ordinary(unittest.TestCase):
    rows = [[10, 90, 20], [80, 15, 30], [28, 25, 70]]

    def test_by_how_sharply_it_turns(self):
        # Straight on: 10, 15 or 20. By one: 90, 80, 28 or 90, 30, 70. By two: 90, 80, 70.
        self.assertEqual(told(self.rows, 0), [20, 2, 2, 2])
        self.assertEqual(told(self.rows, 1), [30, 1, 2, 2])
        self.assertEqual(told(self.rows, 2), [70, 1, 0, 2])

    def test_every_k_there_may_be(self):
        for k in range(2, 9):
            self.assertEqual(told(self.rows, k), [70, 1, 0, 2])

    def test_k_8_and_9(self):
        rows = [[50] + [0] * 8, [0] * 8 + [50]]
        self.assertEqual(told(rows, 7), [0, 0, 0])
        self.assertEqual(told(rows, 8), [50, 0, 8])
        self.assertEqual(told(rows, 9), [-22])
        self.assertEqual(told(rows, LARGEST), [-22])

    def test_k_1_goes_one_to_either_side(self):
        self.assertEqual(told([[0, 9, 0], [9, 0, 0], [0, 9, 0], [0, 0, 9]], 1), [9, 1, 0, 1, 2])

    def test_design_over_and_distances_do_not_count(self):
        for begin in [(1, 1, 0), (50, 100, 50)]:
            for d in (0, 400):
                calls = laid(*begin, [d] * 3, self.rows)
                self.assertEqual(last(*calls, ("way", 1)), [30, 1, 2, 2])

    def test_as_it_is_now(self):
        calls = laid(1, 1, 0, [0] * 3, self.rows)
        found = ask(*calls, ("mark",), ("set", 1, 1, 90), ("way", 1), ("silt", 30), ("way", 1), ("silt", 400),
                    ("way", 0))[4:]
        self.assertEqual([found[2], found[4], found[6]], [[70, 1, 1, 2], [40, 1, 1, 2], [0, 0, 0, 0]])

    def test_all_at_0(self):
        self.assertEqual(told([[0, 0]] * 3, 1), [0, 0, 0, 0])

    def test_all_at_400(self):
        self.assertEqual(told([[400, 400]] * 3, 1), [400, 0, 0, 0])


class OneSection(unittest.TestCase):
    def test_its_deepest_point(self):
        for k in (0, 1, 8):
            self.assertEqual(told([[5, 9, 7]], k), [9, 1])
            self.assertEqual(told([[5, 7, 9]], k), [9, 2])

    def test_of_like_ones_the_first(self):
        for k in (0, 1, 8):
            self.assertEqual(told([[5, 9, 9]], k), [9, 1])
            self.assertEqual(told([[9, 9, 9]], k), [9, 0])


class NoTurn(unittest.TestCase):
    def test_straight_on(self):
        self.assertEqual(told([[9, 9, 5], [1, 9, 5], [9, 2, 5]], 0), [5, 2, 2, 2])

    def test_of_like_ones_the_first(self):
        self.assertEqual(told([[9, 4, 4], [3, 7, 8], [9, 9, 9]], 0), [4, 1, 1, 1])

    def test_two_sections(self):
        self.assertEqual(told([[9, 0], [0, 9]], 0), [0, 0, 0])
        self.assertEqual(told([[9, 0], [0, 9]], 1), [9, 0, 1])


class TwoWaysAsDeep(unittest.TestCase):
    def test_first_different_at_the_first(self):
        self.assertEqual(told([[9, 9, 0], [0, 9, 0], [9, 0, 0]], 1), [9, 0, 1, 0])

    def test_first_different_in_the_middle(self):
        self.assertEqual(told([[0, 9, 0], [9, 0, 9], [0, 9, 0]], 1), [9, 1, 0, 1])

    def test_first_different_at_the_last(self):
        self.assertEqual(told([[0, 9, 0], [0, 9, 0], [9, 0, 9]], 1), [9, 1, 1, 0])

    def test_the_lesser_first_point_though_the_later_ones_are_greater(self):
        self.assertEqual(told([[9, 0, 0, 9], [0, 9, 9, 0], [9, 0, 0, 9]], 2), [9, 0, 1, 0])
        self.assertEqual(told([[9, 0, 9, 0], [0, 9, 0, 0], [0, 0, 9, 0]], 1), [9, 0, 1, 2])
        self.assertEqual(told([[0, 9, 9], [0, 9, 9], [9, 0, 9]], 1), [9, 1, 1, 0])

    def test_the_lesser_one_leads_nowhere(self):
        # Point 0 is as deep, but from there none of the last section is to be had.
        self.assertEqual(told([[9, 9, 9], [9, 9, 0], [0, 0, 9]], 1), [9, 0, 1, 2])
        self.assertEqual(told([[9, 0, 0, 9], [9, 0, 0, 9], [0, 0, 9, 0]], 1), [9, 3, 3, 2])

    def test_deeper_points_on_the_other_do_not_count(self):
        self.assertEqual(told([[7, 20], [7, 20], [7, 7]], 0), [7, 0, 0, 0])


class BeginsDeeperThanTheWholeIs(unittest.TestCase):
    def test_the_depth_is_that_of_the_last(self):
        self.assertEqual(told([[5, 90, 5], [5, 80, 5], [3, 4, 3]], 1), [4, 0, 0, 1])

    def test_points_that_need_not_be_so_deep_are_the_least(self):
        self.assertEqual(told([[30, 90], [30, 90], [10, 20]], 1), [20, 0, 0, 1])
        self.assertEqual(told([[10, 90], [20, 90], [10, 20]], 1), [20, 1, 0, 1])

    def test_the_depth_is_that_of_one_in_the_middle(self):
        self.assertEqual(told([[90, 90, 90], [0, 0, 40], [90, 90, 90]], 1), [40, 1, 2, 1])


class LargeSurveys(unittest.TestCase):
    def test_twelve_sections_of_nine_points(self):
        rows = rising(12, 9, 17)
        depths = [last(*laid(1, 1, 0, [0] * 12, rows), ("way", k)) for k in range(9)]
        for k, found in enumerate(depths):
            with self.subTest(k=k):
                self.assertEqual(len(found), 13)
                self.assertTrue(all(abs(a - b) <= k for a, b in zip(found[1:], found[2:])))
                self.assertEqual(found[0], min(row[j] for row, j in zip(rows, found[1:])))
        self.assertEqual([found[0] for found in depths], sorted(found[0] for found in depths))
        self.assertEqual(depths[8][0], min(max(row) for row in rows))
        self.assertEqual(depths[0][0], max(min(row[j] for row in rows) for j in range(9)))

    def test_from_side_to_side_and_back(self):
        rows = [[0] * 9 for i in range(12)]
        points = [0, 1, 2, 3, 4, 5, 6, 7, 8, 7, 6, 5]
        for row, j in zip(rows, points):
            row[j] = 50
        self.assertEqual(told(rows, 1), [50] + points)
        self.assertEqual(told(rows, 0), [0] * 13)

    def test_all_alike(self):
        for k in (0, 1, 8):
            self.assertEqual(told([[33] * 9] * 12, k), [33] + [0] * 12)

    def test_that_turns_as_late_as_it_may(self):
        rows = [[50] * 9 for i in range(12)]
        rows[11] = [0] * 8 + [50]
        self.assertEqual(told(rows, 1), [50, 0, 0, 0, 0, 1, 2, 3, 4, 5, 6, 7, 8])
        self.assertEqual(told(rows, 8), [50] + [0] * 11 + [8])


class AgainstEveryWay(unittest.TestCase):
    def check(self, seed, most, depths):
        draw = Draw(seed)
        rows = []
        points = 2 + draw.below(4)
        for i in range(1 + draw.below(most)):
            rows.append([draw.below(depths) for j in range(points)])
        found = ask(*laid(1, 1, 0, [0] * len(rows), rows), *[("way", k) for k in range(9)])[-9:]
        for k in range(9):
            with self.subTest(rows=rows, k=k):
                self.assertEqual(found[k], deepest(rows, k))

    def test_many_like_depths(self):
        for seed in range(60):
            self.check(seed, 5, 3)

    def test_few_like_depths(self):
        for seed in range(60, 100):
            self.check(seed, 5, 401)

    def test_all_of_two_depths(self):
        for cells in itertools.product((1, 2), repeat=9):
            rows = [list(cells[0:3]), list(cells[3:6]), list(cells[6:9])]
            found = ask(*laid(1, 1, 0, [0] * 3, rows), ("way", 0), ("way", 1))[-2:]
            self.assertEqual(found, [deepest(rows, 0), deepest(rows, 1)])


class Refused(unittest.TestCase):
    def test_no_section(self):
        for k in (0, 1, 8):
            self.assertEqual(ask(START, ("way", k)), [[0], [-6]])

    def test_k_above_8(self):
        for k in (9, 10, 400, LARGEST):
            self.assertEqual(ask(START, ("section", 5, [1, 2, 3]), ("way", k))[2], [-22])

    def test_k_above_8_ahead_of_no_section(self):
        for k in (9, LARGEST):
            self.assertEqual(ask(START, ("way", k)), [[0], [-22]])

    def test_behind_a_second_begin(self):
        self.assertEqual(ask(START, ("section", 5, [1, 2, 3]), START, ("way", 0), ("way", 9))[3:], [[-6], [-22]])


if __name__ == "__main__":
    unittest.main()
