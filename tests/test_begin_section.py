"""Point 1: begin and section."""

import unittest

from helper import LARGEST, ask, depths_after, last, seen


class Begin(unittest.TestCase):
    def test_ordinary(self):
        self.assertEqual(ask(("begin", 5, 10, 20, 3)), [[0]])

    def check(self, place, good, bad):
        for value in good + bad:
            given = [5, 10, 20, 3]
            given[place] = value
            with self.subTest(given=given):
                self.assertEqual(last(("begin", *given)), [0] if value in good else [-22])

    def test_points(self):
        self.check(0, [2, 3, 8, 9], [0, 1, 10, 11, LARGEST])

    def test_step(self):
        self.check(1, [1, 2, 49, 50], [0, 51, LARGEST])

    def test_apart(self):
        self.check(2, [1, 2, 99, 100], [0, 101, LARGEST])

    def test_over(self):
        self.check(3, [0, 1, 49, 50], [51, 52, LARGEST])

    def test_all_out_of_range(self):
        self.assertEqual(ask(("begin", LARGEST, LARGEST, LARGEST, LARGEST)), [[-22]])
        self.assertEqual(ask(("begin", 0, 0, 0, 0)), [[-22]])

    def test_all_at_their_ends(self):
        self.assertEqual(ask(("begin", 2, 1, 1, 0), ("begin", 9, 50, 100, 50)), [[0], [0]])

    def test_refused_before_one_that_answers_0(self):
        told = ask(("begin", 1, 1, 1, 0), ("volume",), ("begin", 2, 1, 1, 0), ("volume",))
        self.assertEqual(told, [[-22], [-11], [0], [0, 0]])

    def test_refused_after_one_that_answers_0(self):
        base = [("begin", 3, 2, 4, 1), ("section", 9, [1, 9, 20]), ("section", 8, [0, 7, 30]), ("mark",)]
        plain = seen(base, 2, 3)
        for wrong in [(1, 5, 5, 5), (4, 0, 5, 5), (4, 5, 101, 5), (4, 5, 5, 51)]:
            with self.subTest(wrong=wrong):
                self.assertEqual(last(*base, ("begin", *wrong)), [-22])
                self.assertEqual(seen(base + [("begin", *wrong)], 2, 3), plain)

    def test_second_begin_leaves_no_sections(self):
        base = [("begin", 2, 1, 1, 0), ("section", 9, [1, 2]), ("section", 9, [1, 2]), ("begin", 2, 1, 1, 0)]
        told = ask(*base, ("area", 0), ("volume",), ("mark",), ("section", 5, [1, 2]), ("area", 1), ("silt", 1))
        self.assertEqual(told[4:], [[-2], [0, 0], [-6], [0], [-2], [2]])

    def test_second_begin_leaves_nothing_marked(self):
        told = ask(("begin", 2, 1, 1, 0), ("section", 9, [1, 2]), ("mark",), ("section", 9, [1, 2]),
                   ("begin", 2, 1, 1, 0), ("section", 9, [1, 2]), ("section", 9, [1, 2]))
        self.assertEqual(told, [[0], [0], [1], [-16], [0], [0], [1]])

    def test_second_begin_is_as_a_first(self):
        earlier = [("begin", 9, 50, 100, 50), ("section", 9, [1] * 9), ("mark",)]
        later = [("begin", 3, 2, 4, 1), ("section", 9, [1, 9, 20]), ("section", 8, [0, 7, 30])]
        self.assertEqual(seen(earlier + later, 2, 3), seen(later, 2, 3))

    def test_a_design_of_before_does_not_come_back(self):
        told = ask(("begin", 2, 1, 1, 0), ("section", 100, [0, 0]), ("begin", 2, 1, 1, 0), ("section", 7, [0, 0]),
                   ("design", 0, 0))
        self.assertEqual(told[-1], [7])


class Section(unittest.TestCase):
    start = ("begin", 3, 1, 1, 0)

    def test_numbers_go_up_from_0(self):
        told = ask(self.start, ("section", 5, [1, 2, 3]), ("section", 6, [4, 5, 6]), ("section", 7, [7, 8, 9]))
        self.assertEqual(told, [[0], [0], [1], [2]])

    def test_depths_and_design_stand_as_given(self):
        calls = [self.start, ("section", 5, [1, 2, 3]), ("section", 6, [4, 400, 0])]
        self.assertEqual(depths_after(calls, 2, 3), [[1, 2, 3], [4, 400, 0]])
        self.assertEqual(ask(*calls, ("design", 0, 0), ("design", 1, 0))[3:], [[5], [6]])

    def test_as_many_depths_as_points(self):
        for points in range(2, 10):
            for count in range(0, 12):
                with self.subTest(points=points, count=count):
                    told = last(("begin", points, 1, 1, 0), ("section", 5, [1] * count))
                    self.assertEqual(told, [0] if count == points else [-22])

    def test_very_many_depths(self):
        self.assertEqual(ask(self.start, ("section", 5, [1] * 29900), ("section", 5, [1, 1, 1])), [[0], [-22], [0]])

    def test_one_depth_too_deep(self):
        for place in range(3):
            for depth, told in [(0, [0]), (399, [0]), (400, [0]), (401, [-22]), (65535, [-22])]:
                depths = [10, 10, 10]
                depths[place] = depth
                with self.subTest(depths=depths):
                    self.assertEqual(last(self.start, ("section", 5, depths)), told)

    def test_design(self):
        for d, told in [(0, [0]), (400, [0]), (401, [-22]), (LARGEST, [-22])]:
            with self.subTest(d=d):
                self.assertEqual(last(self.start, ("section", d, [1, 2, 3])), told)

    def test_twelve_and_no_more(self):
        calls = [self.start] + [("section", 5, [1, 2, 3])] * 13
        self.assertEqual(ask(*calls), [[0]] + [[i] for i in range(12)] + [[-28]])

    def test_none_behind_a_mark(self):
        told = ask(self.start, ("section", 5, [1, 2, 3]), ("mark",), ("section", 5, [1, 2, 3]))
        self.assertEqual(told[3], [-16])

    def test_a_mark_that_was_refused_stops_none(self):
        self.assertEqual(ask(self.start, ("mark",), ("section", 5, [1, 2, 3])), [[0], [-6], [0]])

    def test_a_refused_one_takes_no_number(self):
        told = ask(self.start, ("section", 401, [1, 2, 3]), ("section", 5, [1, 2]), ("section", 5, [1, 2, 3]))
        self.assertEqual(told, [[0], [-22], [-22], [0]])


if __name__ == "__main__":
    unittest.main()
