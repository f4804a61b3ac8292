"""The interface: how calls and answers stand in their lists, and that nothing else is touched."""

import contextlib
import io
import unittest

from channelway.survey import answers
from helper import LARGEST, NAMES, WHOLES, apart_by_call, ask, flat

LONG = [0, 3, 10, 40, 5,
        1, 50, 3, 10, 30, 70,
        1, 60, 3, 60, 66, 65,
        2, 0, 1, 50,
        3, 1, 61,
        4, 1, 0, 1,
        5, 0, 10,
        8, 0,
        9,
        10, 0, 1,
        11,
        7,
        1, 50, 3, 1, 2, 3,
        6, 2,
        12,
        13, 0,
        14,
        15, 0,
        16, 1,
        17,
        3, 1, 59,
        17,
        18, 1,
        19, 0, 48,
        20,
        21, 1,
        22, 60,
        23]
LONG_TOLD = [1, 0,
             1, 0,
             1, 1,
             1, 30,
             1, 60,
             1, 61,
             1, 1,
             2, 300, 150,
             2, 300, 0,
             2, 300, 0,
             2, 150, 0,
             1, 2,
             1, -16,
             1, 6,
             4, 0, 0, 160, 0,
             2, 18, 0,
             3, 18, 0, 0,
             3, 2, 0, 1,
             1, 0,
             1, 0,
             1, 61,
             2, 1, 1,
             3, 64, 2, 1,
             1, 2,
             2, 0, 360,
             4, 59, 59, 64, 63,
             2, 670, 0,
             7, 0, 2, 3, 10, 40, 5, 1]


class Form(unittest.TestCase):
    def test_a_list_of_each_of_these_calls(self):
        self.assertEqual(answers(LONG), LONG_TOLD)

    def test_the_example_of_the_readme(self):
        calls = [0, 3, 10, 40, 5, 1, 50, 3, 10, 30, 70, 1, 60, 3, 60, 66, 65, 8, 0, 9, 18, 1]
        self.assertEqual(answers(calls), [1, 0, 1, 0, 1, 1, 2, 800, 150, 2, 800, 0, 3, 66, 2, 1])

    def test_one_call(self):
        self.assertEqual(answers([0, 2, 1, 1, 0]), [1, 0])
        self.assertEqual(answers([0, 1, 1, 1, 0]), [1, -22])
        self.assertEqual(answers([9]), [1, -11])

    def test_row_without_numbers(self):
        self.assertEqual(answers([0, 2, 1, 1, 0, 1, 5, 0, 1, 5, 2, 7, 8]), [1, 0, 1, -22, 1, 0])

    def test_row_of_numbers_that_look_like_calls(self):
        self.assertEqual(answers([1, 0, 4, 0, 2, 1, 1, 0, 2, 1, 1, 0]), [1, -11, 1, 0])

    def test_kinds(self):
        told = answers(LONG)
        self.assertIs(type(told), list)
        self.assertEqual({type(number) for number in told}, {int})

    def test_what_is_told_goes_to_its_end_without_a_count(self):
        base = [0, 2, 1, 1, 0, 1, 50, 2, 40, 60, 1, 50, 2, 70, 60]
        self.assertEqual(answers(base + [18, 1])[6:], [3, 60, 1, 0])
        self.assertEqual(answers(base + [21, 0])[6:], [3, 50, 40, 60])

    def test_of_high_and_cleared_the_count_comes_first(self):
        base = [0, 2, 1, 1, 0, 1, 50, 2, 40, 60, 1, 50, 2, 70, 60]
        self.assertEqual(answers(base + [15, 0, 15, 1])[6:], [2, 1, 0, 1, 0])
        self.assertEqual(answers(base + [17])[6:], [2, 1, 1])

    def test_most_calls(self):
        told = answers([0, 9, 50, 100, 50] + [9] * 255)
        self.assertEqual(told, [1, 0] + [2, 0, 0] * 255)

    def test_most_calls_of_each_that_looks(self):
        """256 calls on a survey of the largest size, a row of numbers behind each of the last 243."""
        base = [("begin", 9, 50, 100, 50)] + [("section", 400, [j] * 9) for j in range(12)]
        for name, told in [("look", [400] + [11] * 9), ("high", [9] + list(range(9))), ("least", [11, 0])]:
            rows = ask(*base, *[(name, 11)] * 243)
            self.assertEqual(len(rows), 256)
            self.assertEqual(rows[13:], [told] * 243)
        rows = ask(*base, *[("way", 8)] * 242, ("mark",))
        self.assertEqual(rows[13:], [[0] * 13] * 242 + [[12]])

    def test_most_calls_before_a_begin(self):
        self.assertEqual(answers([23] * 256), [1, -11] * 256)

    def test_longest_list(self):
        calls = [0, 2, 1, 1, 0, 1, 5, 29900] + [3] * 29900 + [9] * 92
        self.assertEqual(len(calls), 30000)
        self.assertEqual(answers(calls), [1, 0, 1, -22] + [2, 0, 0] * 92)

    def test_every_call_is_gone_past_by_its_length(self):
        """Each number of a call that is passed would itself be read as a call, if the length were wrong."""
        base = [("begin", 2, 1, 1, 0), ("section", 9, [4, 9]), ("section", 9, [9, 9])]
        for number in range(8, 24):
            for value in (0, 1, 7, 9, LARGEST):
                call = (NAMES[number],) + (value,) * WHOLES[number]
                with self.subTest(call=call):
                    told = ask(*base, call, ("volume",), ("design", 1, 3), call, ("mark",))
                    self.assertEqual(told[4:6] + told[7:], [[0, 5], [9], [2]])
                    self.assertTrue(len(told[3]) > 0 and len(told[6]) > 0)

    def test_every_call_before_a_begin_is_gone_past_by_its_length(self):
        for number in range(1, 24):
            call = (NAMES[number],) + (0,) * WHOLES[number] + (([0, 0],) if number == 1 else ())
            with self.subTest(call=call):
                self.assertEqual(ask(call, ("begin", 2, 1, 1, 0)), [[-11], [0]])


class NothingElse(unittest.TestCase):
    def test_what_is_handed_in_is_not_changed(self):
        handed = list(LONG)
        answers(handed)
        self.assertEqual(handed, LONG)

    def test_what_is_handed_in_is_not_changed_for_a_while_either(self):
        class Watched(list):
            def refuse(self, *given):
                raise AssertionError("the list handed in was changed")

            __setitem__ = __delitem__ = __iadd__ = __imul__ = refuse
            append = extend = insert = pop = remove = clear = sort = reverse = refuse

        self.assertEqual(answers(Watched(LONG)), LONG_TOLD)

    def test_the_same_each_time(self):
        self.assertEqual(answers(LONG), answers(LONG))

    def test_nothing_is_kept(self):
        answers(LONG)
        self.assertEqual(answers([9]), [1, -11])
        self.assertEqual(answers(flat([("begin", 2, 1, 1, 0), ("area", 0), ("mark",)])), [1, 0, 1, -2, 1, -6])
        self.assertEqual(answers([0, 2, 1, 1, 0, 12, 23]), [1, 0, 1, -6, 7, 0, 0, 2, 1, 1, 0, 0])

    def test_what_is_given_back_is_free_to_change(self):
        answers(LONG).clear()
        self.assertEqual(answers(LONG), LONG_TOLD)

    def test_nothing_is_printed(self):
        out, err = io.StringIO(), io.StringIO()
        with contextlib.redirect_stdout(out), contextlib.redirect_stderr(err):
            answers(LONG)
        self.assertEqual((out.getvalue(), err.getvalue()), ("", ""))

    def test_answers_part_by_call(self):
        self.assertEqual(len(apart_by_call(answers(LONG))), 28)


if __name__ == "__main__":
    unittest.main()
