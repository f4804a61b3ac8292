"""Drawn lists of calls: each answer against a plain second reckoning, and what holds (a to e) behind each call."""

import unittest
from fractions import Fraction

from channelway.survey import answers
from helper import LARGEST, LOOKS, NAMES, Draw, around, ask, by_trapezes, flat, fortieths, shows


def told_volume(metres):
    parts = metres * 40
    if parts.denominator != 1:
        raise AssertionError(f"no whole fortieths: {metres}")
    return list(divmod(int(parts), 40))


def first_way(rows, k, deep, start=()):
    """The first way by its points that is so deep, or None: tried point by point."""
    if len(start) == len(rows):
        return start
    for j, depth in enumerate(rows[len(start)]):
        if depth >= deep and (not start or abs(start[-1] - j) <= k):
            found = first_way(rows, k, deep, start + (j,))
            if found is not None:
                return found
    return None


class Reckoning:
    """The words of the document, one by one; each answer is the list of its numbers."""

    def __init__(self):
        self.size = None

    def answer(self, call):
        if call[0] != "begin" and self.size is None:
            return [-11]
        return getattr(self, "tell_" + call[0])(*call[1:])

    def there(self, i, j=0):
        return i < len(self.rows) and j < self.size[0]

    def whole(self, heights):
        return told_volume(by_trapezes(self.size[1], self.size[2], heights))

    def twice(self, heights):
        return self.size[1] * (2 * sum(heights) - heights[0] - heights[-1])

    def dig(self, i):
        return [self.designs[i] - x if x < self.designs[i] else 0 for x in self.rows[i]]

    def waste(self, i):
        top = self.designs[i] + self.size[3]
        return [x - top if x > top else 0 for x in self.rows[i]]

    def every(self):
        return list(range(len(self.rows)))

    def tell_begin(self, points, step, apart, over):
        if points not in range(2, 10) or step not in range(1, 51) or apart not in range(1, 101) or over > 50:
            return [-22]
        self.size, self.rows, self.designs, self.then = (points, step, apart, over), [], [], None
        return [0]

    def tell_section(self, d, depths):
        if len(depths) != self.size[0] or any(x > 400 for x in depths) or d > 400:
            return [-22]
        if self.then is not None:
            return [-16]
        if len(self.rows) >= 12:
            return [-28]
        self.rows, self.designs = self.rows + [depths], self.designs + [d]
        return [len(self.rows) - 1]

    def put(self, i, j, depth):
        self.rows = [[depth if (m, n) == (i, j) else x for n, x in enumerate(row)] for m, row in enumerate(self.rows)]

    def tell_set(self, i, j, d):
        if not self.there(i, j):
            return [-2]
        if d > 400:
            return [-22]
        before = self.rows[i][j]
        self.put(i, j, d)
        return [before]

    def tell_design(self, i, d):
        if not self.there(i):
            return [-2]
        if d > 400:
            return [-22]
        before = self.designs[i]
        self.designs = self.designs[:i] + [d] + self.designs[i + 1:]
        return [before]

    def tell_dug(self, i, j, n):
        if not self.there(i, j):
            return [-2]
        if n == 0 or self.rows[i][j] + n > 400:
            return [-22]
        self.put(i, j, self.rows[i][j] + n)
        return [self.rows[i][j]]

    def tell_sweep(self, i, n):
        if not self.there(i):
            return [-2]
        if n not in range(1, 401):
            return [-22]
        swept = [j for j, lack in enumerate(self.dig(i)) if lack > 0]
        for j, lack in enumerate(self.dig(i)):
            self.put(i, j, self.rows[i][j] + min(lack, n))
        return [len(swept)]

    def tell_silt(self, n):
        if n not in range(1, 401):
            return [-22]
        deep = sum(x != 0 for row in self.rows for x in row)
        self.rows = [[x - n if x > n else 0 for x in row] for row in self.rows]
        return [deep]

    def tell_mark(self):
        if not self.rows:
            return [-6]
        self.then = self.rows
        return [len(self.rows)]

    def tell_area(self, i):
        return [self.twice(self.dig(i)), self.twice(self.waste(i))] if self.there(i) else [-2]

    def tell_volume(self):
        return self.whole([self.dig(i) for i in self.every()])

    def tell_between(self, i, k):
        if not self.there(i) or not self.there(k):
            return [-2]
        return self.whole([self.dig(m) for m in range(i, k + 1)]) if k > i else [-22]

    def tell_wasted(self):
        return self.whole([self.waste(i) for i in self.every()])

    def tell_gone(self):
        if self.then is None:
            return [-6]
        more = [[b - a for a, b in zip(*pair)] for pair in zip(self.then, self.rows)]
        went = [[max(x, 0) for x in row] for row in more]
        return self.whole(went) + self.whole([[max(-x, 0) for x in row] for row in more])

    def tell_least(self, i):
        return list(min((x, j) for j, x in enumerate(self.rows[i]))) if self.there(i) else [-2]

    def tell_bar(self):
        places = [(x, i, j) for i, row in enumerate(self.rows) for j, x in enumerate(row)]
        return list(min(places)) if places else [-6]

    def tell_high(self, i):
        if not self.there(i):
            return [-2]
        found = [j for j, lack in enumerate(self.dig(i)) if lack]
        return [len(found), *found]

    def tell_clear(self, i):
        return [int(not any(self.dig(i)))] if self.there(i) else [-2]

    def tell_cleared(self):
        found = [i for i in self.every() if not any(self.dig(i))]
        return [len(found), *found]

    def tell_way(self, k):
        if k > 8:
            return [-22]
        if not self.rows:
            return [-6]
        for deep in sorted({x for row in self.rows for x in row}, reverse=True):
            found = first_way(self.rows, k, deep)
            if found is not None:
                return [deep, *found]
        raise AssertionError("there's always a way")

    def tell_wide(self, i, d):
        if not self.there(i):
            return [-2]
        return [max(map(len, "".join("x" if x >= d else " " for x in self.rows[i]).split(" ")))]

    def tell_worst(self):
        areas = [(-self.twice(self.dig(i)), i) for i in self.every()]
        return [min(areas)[1], -min(areas)[0]] if areas else [-6]

    def tell_look(self, i):
        return [self.designs[i], *self.rows[i]] if self.there(i) else [-2]

    def tell_level(self, d):
        return self.whole([[max(d - x, 0) for x in row] for row in self.rows]) if d <= 400 else [-22]

    def tell_state(self):
        return [0, len(self.rows), *self.size, int(self.then is not None)]


class Lists:
    """Draws calls: most of them of what is there, some of what is not."""

    def __init__(self, seed, sections, points):
        self.seed = seed
        self.draw = Draw(seed)
        self.sections = sections
        self.points = points

    def edge(self, usual):
        return self.draw.of((0, 1, 400, 401, LARGEST)) if self.draw.below(9) == 0 else usual

    def depth(self):
        return self.edge(self.draw.of((self.draw.below(401), 30 + self.draw.below(5))))

    def place(self, bound):
        return self.draw.below(bound + 1) if self.draw.below(30) else LARGEST

    def amount(self):
        return self.edge(1 + self.draw.below(self.draw.of((4, 40, 400))))

    def begin(self):
        given = [self.points, 1 + self.draw.below(50), 1 + self.draw.below(100), self.draw.below(51)]
        if self.draw.below(4) == 0:
            given[self.draw.below(4)] = self.draw.of((0, 1, 10, 51, 101, LARGEST))
        return ("begin", *given)

    def section(self):
        usual = [self.draw.of((30 + self.draw.below(5), self.draw.below(401))) for j in range(self.points)]
        if self.draw.below(12) == 0:
            usual = [self.draw.of((0, 400, 401, 65535)) for j in range(self.draw.below(11))]
        return ("section", self.depth(), usual)

    def call(self, name):
        if name == "begin":
            return self.begin()
        if name == "section":
            return self.section()
        i, j = self.place(self.sections), self.place(self.points)
        given = {"set": (i, j, self.depth()), "design": (i, self.depth()), "dug": (i, j, self.amount()),
                 "sweep": (i, self.amount()), "silt": (self.amount(),), "between": (i, self.place(self.sections)),
                 "way": (self.place(9),), "wide": (i, self.depth()), "level": (self.depth(),)}
        plain = (i,) if name in ("area", "least", "high", "clear", "look") else ()
        return (name, *given.get(name, plain))

    def start(self):
        calls = [("begin", self.points, 1 + self.draw.below(50), 1 + self.draw.below(100), self.draw.below(51))]
        return calls + [self.section() for i in range(self.sections)]

    def changes(self, count):
        names = ("set", "set", "design", "dug", "dug", "sweep", "silt", "mark")
        return [self.call(self.draw.of(names)) for number in range(count)]

    def any_calls(self, count):
        # begin is drawn seldom, as it leaves nothing of what was there.
        names = NAMES[1:] * 2 + ("set", "dug", "section", "sweep", "begin")
        return [self.call(self.draw.of(names)) for number in range(count)]


def drawn(seeds):
    for seed in range(seeds):
        draw = Draw(seed + 1000)
        yield Lists(seed, draw.of((1, 2, 2, 3, 3, 4, 12)), draw.of((2, 3, 3, 4, 5)))


def reckoned(calls):
    survey = Reckoning()
    return [survey.answer(call) for call in calls]


class AgainstTheReckoning(unittest.TestCase):
    def check(self, calls):
        for call, told, expected in zip(calls, ask(*calls), reckoned(calls)):
            self.assertEqual(told, expected, call)

    def test_short_lists(self):
        for lists in drawn(150):
            with self.subTest(seed=lists.seed):
                self.check(lists.start() + lists.any_calls(30))

    def test_lists_that_may_not_be_begun(self):
        for lists in drawn(60):
            with self.subTest(seed=lists.seed):
                self.check(lists.any_calls(60))

    def test_lists_of_256_calls(self):
        for lists in drawn(25):
            calls = lists.start()
            calls += lists.any_calls(256 - len(calls))
            with self.subTest(seed=lists.seed):
                self.check(calls)

    def test_every_answer_is_drawn(self):
        """Each call is answered and refused, so that the lists above do ask what they are to ask."""
        found = {}
        for lists in drawn(150):
            calls = lists.start() + lists.any_calls(30)
            for call, told in zip(calls, reckoned(calls)):
                found.setdefault(call[0], set()).add(min(told[0], 0))
        for name, numbers in (("section", {-22, -16, -28}), ("set", {-2, -22}), ("between", {-2, -22}),
                              ("gone", {-6}), ("bar", {-6}), ("worst", {-6}), ("way", {-22, -6}), ("level", {-22}),
                              ("least", {-2}), ("high", {-2}), ("clear", {-2}), ("wide", {-2}), ("look", {-2})):
            self.assertEqual(found[name] - {-11}, numbers | {0}, name)
        self.assertEqual(set(found), set(NAMES))

    def test_the_list_is_the_same_and_so_are_the_answers(self):
        for lists in drawn(40):
            handed = flat(lists.start() + lists.any_calls(100))
            before = list(handed)
            first = answers(handed)
            self.assertEqual(handed, before)
            self.assertEqual(answers(handed), first)
            self.assertEqual({type(number) for number in first}, {int})

    def test_no_other_answer_has_a_number_below_0(self):
        for lists in drawn(60):
            for told in ask(*lists.start(), *lists.any_calls(100)):
                self.assertTrue(min(told) >= 0 or told in ([-2], [-6], [-11], [-16], [-22], [-28]), told)


class WhatHolds(unittest.TestCase):
    """Behind the changes that are drawn; how many sections there are, state tells."""

    def each(self, seeds=120):
        for lists in drawn(seeds):
            calls = lists.start() + lists.changes(12)
            sections = ask(*calls, ("state",))[-1][1]
            yield lists, calls, sections

    def behind(self, calls, *looks):
        return ask(*calls, *looks)[len(calls):]

    def test_a_every_section_has_as_many_points(self):
        for lists, calls, sections in self.each():
            for told in self.behind(calls, *[("look", i) for i in range(sections)]):
                self.assertEqual(len(told), 1 + lists.points)

    def test_a_a_section_that_is_clear_has_nothing_to_be_dug(self):
        found = set()
        for lists, calls, sections in self.each():
            for i in range(sections):
                clear, area = self.behind(calls, ("clear", i), ("area", i))
                found.add(clear[0])
                self.assertEqual(clear[0] == 1, area[0] == 0)
        self.assertEqual(found, {0, 1})

    def test_b_parts_between_sections_are_the_whole(self):
        for lists, calls, sections in self.each():
            parts = self.behind(calls, *[("between", i, i + 1) for i in range(sections - 1)])
            whole = self.behind(calls, ("volume",))[0]
            self.assertEqual(sum(fortieths(part) for part in parts), fortieths(whole))
            for k in range(1, sections - 1):
                two = self.behind(calls, ("between", 0, k), ("between", k, sections - 1))
                self.assertEqual(fortieths(two[0]) + fortieths(two[1]), fortieths(whole))

    def test_b_dug_deeper_there_is_no_more_to_be_dug(self):
        for lists, calls, sections in self.each():
            for number in range(5):
                digs = ("dug", lists.draw.below(sections + 1), lists.draw.below(lists.points), lists.amount())
                told = self.behind(calls, ("volume",), ("worst",), digs, ("volume",), ("worst",))
                self.assertLessEqual(fortieths(told[3]), fortieths(told[0]))
                self.assertLessEqual(told[4][-1], told[1][-1])

    def test_b_a_sweep_never_goes_too_deep(self):
        for lists, calls, sections in self.each():
            looks = [("wasted",)] + [("look", i) for i in range(sections)]
            for i in range(sections):
                told = self.behind(calls, *looks, ("sweep", i, lists.amount()), *looks)
                self.assertEqual(told[0], told[len(looks) + 1])
                before, after = told[1 + i], told[len(looks) + 2 + i]
                for depth, then in zip(before[1:], after[1:]):
                    self.assertTrue(depth == then or depth < then <= before[0])

    def test_c_a_wider_turn_goes_no_less_deep(self):
        for lists, calls, sections in self.each():
            deep = [told[0] for told in self.behind(calls, *[("way", k) for k in range(9)])]
            self.assertEqual(deep, sorted(deep))

    def test_c_the_way_that_is_told_is_so_deep(self):
        for lists, calls, sections in self.each():
            if sections > 0:
                rows = [told[1:] for told in self.behind(calls, *[("look", i) for i in range(sections)])]
                for k in range(9):
                    told = self.behind(calls, ("way", k))[0]
                    self.assertEqual(told[0], min(row[j] for row, j in zip(rows, told[1:])))
                    self.assertTrue(all(abs(a - b) <= k for a, b in zip(told[1:], told[2:])))

    def test_c_no_way_is_deeper(self):
        for lists, calls, sections in self.each(60):
            rows = [told[1:] for told in self.behind(calls, *[("look", i) for i in range(sections)])]
            for k in range(9 if sections > 0 else 0):
                told = self.behind(calls, ("way", k))[0]
                self.assertIsNone(first_way(rows, k, told[0] + 1))
                self.assertEqual(first_way(rows, k, told[0]), tuple(told[1:]))

    def test_d_marked_just_now_nothing_is_gone_and_nothing_has_come(self):
        for lists, calls, sections in self.each():
            if sections > 0:
                told = self.behind(calls, ("mark",), ("gone",))
                self.assertEqual(told, [[sections], [0, 0, 0, 0]])

    def test_e_what_is_refused_and_looking_changes_nothing(self):
        refused = 0
        for lists, calls, sections in self.each():
            for call in lists.any_calls(20):
                first, told, then = around(calls, call, sections)
                if told[0] < 0 or call[0] in LOOKS:
                    refused += told[0] < 0
                    self.assertEqual(then, first, call)
        self.assertGreater(refused, 200)

    def test_e_before_a_begin(self):
        for lists in drawn(30):
            for call in lists.any_calls(20):
                if call[0] != "begin":
                    self.assertEqual(around([], call, 2), ([[-11]] * len(shows(2)), [-11], [[-11]] * len(shows(2))))


class GoneAndLevel(unittest.TestCase):
    def test_what_is_gone_less_what_has_come_is_by_how_much_the_whole_is_deeper(self):
        for lists in drawn(80):
            calls = lists.start()
            changes = [call for call in lists.changes(12) if call[0] != "mark"]
            told = ask(*calls, ("mark",), ("level", 400), *changes, ("level", 400), ("gone",))
            if told[-1] != [-6]:
                before, after, gone = told[len(calls) + 1], told[-2], told[-1]
                more = Fraction(fortieths(gone[:2]) - fortieths(gone[2:]), 40)
                self.assertEqual(more, Fraction(fortieths(before) - fortieths(after), 40))


if __name__ == "__main__":
    unittest.main()
