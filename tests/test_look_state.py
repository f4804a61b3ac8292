"""Point 4: look and state."""

import unittest

from helper import LARGEST, ask, last

START = ("begin", 3, 2, 4, 1)
FIRST = ("section", 9, [1, 9, 20])
SECOND = ("section", 8, [0, 400, 30])


class Look(unittest.TestCase):
    def test_right_after_begin(self):
        self.assertEqual(ask(START, ("look", 0)), [[0], [-2]])

    def test_after_sections(self):
        told = ask(START, FIRST, ("look", 0), ("look", 1), SECOND, ("look", 0), ("look", 1), ("look", 2))
        self.assertEqual(told[2:4], [[9, 1, 9, 20], [-2]])
        self.assertEqual(told[5:], [[9, 1, 9, 20], [8, 0, 400, 30], [-2]])

    def test_every_number_of_points(self):
        for points in range(2, 10):
            depths = [7 * j for j in range(points)]
            self.assertEqual(last(("begin", points, 1, 1, 0), ("section", 400, depths), ("look", 0)), [400] + depths)

    def test_after_mark(self):
        told = ask(START, FIRST, SECOND, ("mark",), ("look", 0), ("dug", 0, 0, 5), ("look", 0), ("look", 1))
        self.assertEqual(told[4:], [[9, 1, 9, 20], [6], [9, 6, 9, 20], [8, 0, 400, 30]])

    def test_after_each_change(self):
        told = ask(START, FIRST, ("set", 0, 2, 0), ("look", 0), ("design", 0, 50), ("look", 0), ("sweep", 0, 4),
                   ("look", 0), ("silt", 5), ("look", 0))
        self.assertEqual(told[3::2], [[9, 1, 9, 0], [50, 1, 9, 0], [50, 5, 13, 4], [50, 0, 8, 0]])

    def test_after_a_second_begin(self):
        told = ask(START, FIRST, SECOND, ("begin", 2, 1, 1, 0), ("look", 0), ("section", 5, [3, 4]), ("look", 0),
                   ("look", 1))
        self.assertEqual(told[4:], [[-2], [0], [5, 3, 4], [-2]])

    def test_no_such_section(self):
        self.assertEqual(ask(START, FIRST, ("look", 1), ("look", 12), ("look", LARGEST))[2:], [[-2]] * 3)

    def test_the_twelfth(self):
        rows = [("section", i, [i, 2 * i, 3 * i]) for i in range(12)]
        self.assertEqual(ask(START, *rows, ("look", 11), ("look", 12))[13:], [[11, 11, 22, 33], [-2]])


class State(unittest.TestCase):
    def test_right_after_begin(self):
        self.assertEqual(ask(START, ("state",)), [[0], [0, 0, 3, 2, 4, 1, 0]])
        self.assertEqual(last(("begin", 9, 50, 100, 50), ("state",)), [0, 0, 9, 50, 100, 50, 0])
        self.assertEqual(last(("begin", 2, 1, 1, 0), ("state",)), [0, 0, 2, 1, 1, 0, 0])

    def test_after_sections(self):
        told = ask(START, FIRST, ("state",), SECOND, ("state",))
        self.assertEqual([told[2], told[4]], [[0, 1, 3, 2, 4, 1, 0], [0, 2, 3, 2, 4, 1, 0]])
        self.assertEqual(last(START, *[FIRST] * 12, ("state",)), [0, 12, 3, 2, 4, 1, 0])

    def test_after_mark(self):
        told = ask(START, FIRST, ("mark",), ("state",), ("mark",), ("state",), ("dug", 0, 0, 1), ("state",))
        self.assertEqual(told[3::2], [[0, 1, 3, 2, 4, 1, 1]] * 3)

    def test_after_a_mark_that_is_refused(self):
        self.assertEqual(ask(START, ("mark",), ("state",))[1:], [[-6], [0, 0, 3, 2, 4, 1, 0]])

    def test_after_a_section_that_is_refused(self):
        told = ask(START, FIRST, ("section", 401, [1, 2, 3]), ("state",), ("mark",), SECOND, ("state",))
        self.assertEqual([told[3], told[6]], [[0, 1, 3, 2, 4, 1, 0], [0, 1, 3, 2, 4, 1, 1]])

    def test_after_a_second_begin_nothing_is_marked(self):
        told = ask(START, FIRST, ("mark",), ("begin", 5, 6, 7, 8), ("state",), ("gone",), ("begin", 9, 1, 2, 3),
                   ("section", 0, [0] * 9), ("state",))
        self.assertEqual(told[4:6], [[0, 0, 5, 6, 7, 8, 0], [-6]])
        self.assertEqual(told[8], [0, 1, 9, 1, 2, 3, 0])

    def test_after_a_begin_that_is_refused(self):
        told = last(START, FIRST, ("mark",), ("begin", 5, 6, 7, 51), ("state",))
        self.assertEqual(told, [0, 1, 3, 2, 4, 1, 1])


if __name__ == "__main__":
    unittest.main()
