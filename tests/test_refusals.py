"""Refusals: which comes first where two are due, and that a refused call changes nothing."""

import unittest

from helper import LARGEST, LOOKS, NAMES, WHOLES, around, ask, last, seen

START = ("begin", 3, 2, 4, 1)
FIRST = ("section", 9, [1, 9, 20])
SECOND = ("section", 8, [0, 7, 30])
TWO = [START, FIRST, SECOND]
MARKED = TWO + [("mark",)]
FULL = [START] + [FIRST] * 12
FULL_MARKED = FULL + [("mark",)]

# What stands before, the refused call, the answer.
ALONE = [
    (TWO, ("section", 9, [1, 2]), -22),
    (TWO, ("section", 9, [1, 2, 3, 4]), -22),
    (TWO, ("section", 9, []), -22),
    (TWO, ("section", 9, [1, 401, 3]), -22),
    (TWO, ("section", 401, [1, 2, 3]), -22),
    (TWO, ("section", LARGEST, [1, 2, 3]), -22),
    (MARKED, ("section", 9, [1, 2, 3]), -16),
    (FULL, ("section", 9, [1, 2, 3]), -28),
    (TWO, ("set", 2, 0, 5), -2),
    (TWO, ("set", 0, 3, 5), -2),
    (TWO, ("set", 0, 0, 401), -22),
    (TWO, ("set", 1, 2, LARGEST), -22),
    (TWO, ("design", 2, 5), -2),
    (TWO, ("design", 0, 401), -22),
    (TWO, ("dug", 2, 0, 5), -2),
    (TWO, ("dug", 0, 3, 5), -2),
    (TWO, ("dug", 0, 0, 0), -22),
    (TWO, ("dug", 0, 0, 400), -22),
    (TWO, ("dug", 0, 0, LARGEST), -22),
    (TWO, ("sweep", 2, 5), -2),
    (TWO, ("sweep", 0, 0), -22),
    (TWO, ("sweep", 0, 401), -22),
    (TWO, ("silt", 0), -22),
    (TWO, ("silt", 401), -22),
    ([START], ("mark",), -6),
    (TWO, ("area", 2), -2),
    (TWO, ("between", 0, 2), -2),
    (TWO, ("between", 2, 3), -2),
    (TWO, ("between", 1, 1), -22),
    (TWO, ("between", 1, 0), -22),
    (TWO, ("gone",), -6),
    ([START], ("gone",), -6),
    (TWO, ("least", 2), -2),
    (TWO, ("least", LARGEST), -2),
    ([START], ("least", 0), -2),
    ([START], ("bar",), -6),
    (TWO, ("high", 2), -2),
    (TWO, ("high", LARGEST), -2),
    ([START], ("high", 0), -2),
    (TWO, ("clear", 2), -2),
    (TWO, ("clear", LARGEST), -2),
    ([START], ("clear", 0), -2),
    (TWO, ("way", 9), -22),
    (MARKED, ("way", LARGEST), -22),
    ([START], ("way", 8), -6),
    ([START], ("way", 0), -6),
    (TWO, ("wide", 2, 5), -2),
    (TWO, ("wide", LARGEST, 0), -2),
    ([START], ("wide", 0, 0), -2),
    ([START], ("worst",), -6),
    (TWO, ("look", 2), -2),
    (TWO, ("look", LARGEST), -2),
    ([START], ("look", 0), -2),
    (TWO, ("level", 401), -22),
    ([START], ("level", 401), -22),
    (MARKED, ("level", LARGEST), -22),
    (TWO, ("begin", 1, 1, 1, 0), -22),
    (MARKED, ("begin", 2, 0, 1, 0), -22),
    (TWO, ("begin", 2, 1, 0, 0), -22),
    (TWO, ("begin", 2, 1, 1, 51), -22),
]
TOGETHER = [
    (MARKED, ("section", 9, [1, 2]), -22),
    (MARKED, ("section", 9, [1, 2, 401]), -22),
    (MARKED, ("section", 401, [1, 2, 3]), -22),
    (FULL, ("section", 9, []), -22),
    (FULL, ("section", 9, [1, 2, 401]), -22),
    (FULL, ("section", 401, [1, 2, 3]), -22),
    (FULL_MARKED, ("section", 9, [1, 2, 3]), -16),
    (FULL_MARKED, ("section", 401, [1, 2, 3]), -22),
    (FULL_MARKED, ("section", 9, [1, 2, 3, 4]), -22),
    (TWO, ("section", 401, [401]), -22),
    (TWO, ("set", 2, 0, 401), -2),
    (TWO, ("set", 0, 3, 401), -2),
    (TWO, ("set", LARGEST, LARGEST, LARGEST), -2),
    (TWO, ("design", 2, 401), -2),
    (TWO, ("design", LARGEST, LARGEST), -2),
    (TWO, ("dug", 2, 0, 0), -2),
    (TWO, ("dug", 0, 3, 0), -2),
    (TWO, ("dug", 2, 0, 401), -2),
    (TWO, ("dug", 0, 3, LARGEST), -2),
    (TWO, ("dug", LARGEST, LARGEST, LARGEST), -2),
    (TWO, ("sweep", 2, 0), -2),
    (TWO, ("sweep", 2, 401), -2),
    (TWO, ("sweep", LARGEST, LARGEST), -2),
    (TWO, ("between", 2, 2), -2),
    (TWO, ("between", 2, 0), -2),
    (TWO, ("between", 3, 2), -2),
    (TWO, ("between", LARGEST, LARGEST), -2),
    ([START], ("between", 0, 0), -2),
    ([START], ("way", 9), -22),
    ([START], ("way", LARGEST), -22),
]


class Refused(unittest.TestCase):
    def test_each_alone(self):
        for before, call, number in ALONE:
            with self.subTest(call=call, before=len(before)):
                self.assertEqual(last(*before, call), [number])

    def test_the_one_told_first(self):
        for before, call, number in TOGETHER:
            with self.subTest(call=call, before=len(before)):
                self.assertEqual(last(*before, call), [number])

    def test_changes_nothing(self):
        for before, call, number in ALONE + TOGETHER:
            sections = sum(1 for made in before if made[0] == "section")
            with self.subTest(call=call, before=len(before)):
                self.assertEqual(seen(before + [call], sections, 3), seen(before, sections, 3))

    def test_shows_the_same_before_and_after(self):
        for before, call, number in ALONE + TOGETHER:
            sections = sum(1 for made in before if made[0] == "section")
            with self.subTest(call=call, before=len(before)):
                first, told, then = around(before, call, sections)
                self.assertEqual((told, then), ([number], first))

    def test_changes_nothing_that_is_not_begun(self):
        self.assertEqual(seen([("begin", 3, 1, 1, 51)], 1, 3), seen([("silt", 0)], 1, 3))
        self.assertEqual(seen([("section", 9, [1, 2, 3]), START], 1, 3), seen([START], 1, 3))


def with_all(number, value):
    call = [NAMES[number]] + [value] * WHOLES[number]
    return tuple(call + [[value % 65536] * 3]) if number == 1 else tuple(call)


class NotBegun(unittest.TestCase):
    def test_every_other_call(self):
        for number in range(1, 24):
            for value in (0, 1, 2, 400, LARGEST):
                with self.subTest(name=NAMES[number], value=value):
                    self.assertEqual(ask(with_all(number, value)), [[-11]])

    def test_ahead_of_every_other_refusal(self):
        for before, call, number in ALONE + TOGETHER:
            if call[0] != "begin":
                self.assertEqual(last(*before[1:], call), [-11])

    def test_behind_a_begin_that_is_refused(self):
        for number in range(1, 24):
            told = ask(("begin", 10, 1, 1, 0), with_all(number, 1), ("begin", 2, 51, 1, 0), with_all(number, 1))
            self.assertEqual(told, [[-22], [-11], [-22], [-11]])

    def test_begin_itself_is_never_refused_so(self):
        self.assertEqual(ask(("begin", 0, 0, 0, 0), ("begin", 2, 1, 1, 0)), [[-22], [0]])

    def test_not_begun_and_then_begun(self):
        told = ask(("section", 5, [1, 2]), ("mark",), ("begin", 2, 1, 1, 0), ("mark",), ("section", 5, [1, 2]))
        self.assertEqual(told, [[-11], [-11], [0], [-6], [0]])


class Looking(unittest.TestCase):
    given = {"area": (1,), "between": (0, 1), "least": (1,), "high": (0,), "clear": (1,), "way": (1,), "wide": (1, 7),
             "look": (0,), "level": (9,)}
    changed = MARKED + [("dug", 0, 1, 5), ("silt", 2), ("design", 1, 12)]

    def test_changes_nothing(self):
        for before in (TWO, MARKED, self.changed, FULL):
            for name in LOOKS:
                call = (name, *self.given.get(name, ()))
                sections = 12 if before is FULL else 2
                with self.subTest(call=call, before=len(before)):
                    first, told, then = around(before, call, sections)
                    self.assertEqual(then, first)
                    self.assertEqual(seen(before + [call], sections, 3), seen(before, sections, 3))
                    if name != "gone":
                        self.assertGreaterEqual(told[0], 0)

    def test_changes_nothing_without_sections(self):
        for name in LOOKS:
            call = (name, *self.given.get(name, ()))
            with self.subTest(call=call):
                first, told, then = around([START], call, 0)
                self.assertEqual(then, first)
                self.assertEqual(seen([START, call], 0, 3), seen([START], 0, 3))

    def test_answers_the_same_again(self):
        looks = [(name, *self.given.get(name, ())) for name in LOOKS]
        told = ask(*self.changed, *looks, *looks)[len(self.changed):]
        self.assertEqual(told[:len(looks)], told[len(looks):])


class LargestNumbers(unittest.TestCase):
    def test_wherever_one_may_stand(self):
        good = {"begin": [3, 2, 4, 1], "section": [9], "set": [0, 0, 5], "design": [0, 5], "dug": [0, 0, 5],
                "sweep": [0, 5], "silt": [5], "area": [0], "between": [0, 1], "least": [0], "high": [0], "clear": [0],
                "way": [0], "wide": [0, 0], "look": [0], "level": [0]}
        none = {("set", 0), ("set", 1), ("design", 0), ("dug", 0), ("dug", 1), ("sweep", 0), ("area", 0),
                ("between", 0), ("between", 1), ("least", 0), ("high", 0), ("clear", 0), ("wide", 0), ("look", 0)}
        for name in NAMES:
            for place in range(WHOLES[NAMES.index(name)]):
                given = list(good[name])
                given[place] = LARGEST
                if name == "section":
                    given.append([1, 2, 3])
                number = [-2] if (name, place) in none else [-22]
                # As deep as that no point is; wide refuses no depth.
                expected = [0] if (name, place) == ("wide", 1) else number
                with self.subTest(name=name, given=given):
                    self.assertEqual(last(*TWO, (name, *given)), expected)

    def test_in_all_places_at_once(self):
        ahead = {"begin": -22, "section": -22, "silt": -22, "way": -22, "level": -22}
        for number, name in enumerate(NAMES):
            if WHOLES[number] > 0:
                with self.subTest(name=name):
                    self.assertEqual(last(*TWO, with_all(number, LARGEST)), [ahead.get(name, -2)])


if __name__ == "__main__":
    unittest.main()
