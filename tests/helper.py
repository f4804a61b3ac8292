"""Calls by their words, and answers call by call, for all tests."""

from fractions import Fraction

from channelway.survey import answers

NAMES = (
    "begin", "section", "set", "design", "dug", "sweep", "silt", "mark", "area", "volume", "between", "wasted",
    "gone", "least", "bar", "high", "clear", "cleared", "way", "wide", "worst", "look", "level", "state",
)
WHOLES = (4, 1, 3, 2, 3, 2, 1, 0, 1, 0, 2, 0, 0, 1, 0, 1, 1, 0, 1, 2, 0, 1, 1, 0)
LOOKS = NAMES[8:]
LARGEST = 4294967295


def flat(calls):
    """The one list of whole numbers for calls such as ("section", 50, [1, 2])."""
    numbers = []
    for call in calls:
        numbers.append(NAMES.index(call[0]))
        for given in call[1:]:
            if isinstance(given, list):
                numbers.append(len(given))
                numbers.extend(given)
            else:
                numbers.append(given)
    return numbers


def apart_by_call(told):
    rows = []
    at = 0
    while at < len(told):
        end = at + 1 + told[at]
        if end > len(told):
            raise AssertionError(f"an answer goes on behind the end: {told}")
        rows.append(told[at + 1:end])
        at = end
    return rows


def ask(*calls):
    """What each of the calls answers, one list a call."""
    rows = apart_by_call(answers(flat(calls)))
    if len(rows) != len(calls):
        raise AssertionError(f"{len(calls)} calls, but {len(rows)} answers: {rows}")
    return rows


def last(*calls):
    return ask(*calls)[-1]


def fortieths(told):
    return told[0] * 40 + told[1]


def by_trapezes(step, apart, rows):
    """Cubic metres as a surveyor reckons: mean heights in metres between points, mean areas between sections."""
    areas = []
    for heights in rows:
        areas.append(sum(Fraction(a + b, 20) * step for a, b in zip(heights, heights[1:])))
    return sum(((a + b) / 2 * apart for a, b in zip(areas, areas[1:])), Fraction(0))


def rising(sections, points, factor):
    """Depths from 0 to 120 that follow no plain order, the same each time."""
    return [[(factor * (i * points + j + 1) ** 2 + 5 * j) % 121 for j in range(points)] for i in range(sections)]


def laid(step, apart, over, designs, rows):
    return [("begin", len(rows[0]), step, apart, over)] + [("section", d, row) for d, row in zip(designs, rows)]


def shows(sections):
    """Looks that tell all that the object holds: state, every section, and by gone what was marked."""
    return [("state",)] + [("look", i) for i in range(sections + 1)] + [("gone",)]


def around(before, call, sections):
    """What the object shows ahead of the call, the call's answer, what the object shows behind it."""
    looks = shows(sections)
    told = ask(*before, *looks, call, *looks)[len(before):]
    return told[:len(looks)], told[len(looks)], told[len(looks) + 1:]


class Draw:
    """Numbers that follow no plain order, the same ones for the same seed under every Python."""

    def __init__(self, seed):
        self.now = seed * 7919 + 1

    def below(self, bound):
        self.now = (self.now * 6364136223846793005 + 1442695040888963407) % 2 ** 64
        return (self.now >> 33) % bound

    def of(self, values):
        return values[self.below(len(values))]


def probes(sections, points):
    """Calls that show all that can be asked of an object of so many sections and points.

    Those that only look come first; set and design answer what was there, and then lay all
    points at known depths, so that the areas and volumes behind them show step, apart and over.
    Then each point in turn is set to 0, and gone behind it shows how deep it was marked.
    """
    calls = shows(sections) + [("volume",), ("wasted",)]
    calls += [("area", i) for i in range(sections + 1)]
    calls += [("between", i, k) for i in range(sections + 1) for k in range(sections + 1)]
    calls += [("set", i, j, 400 - j) for i in range(sections + 1) for j in range(points + 1)]
    calls += [("design", i, 7 * i) for i in range(sections + 1)]
    calls += [("area", i) for i in range(sections)] + [("volume",), ("wasted",)]
    for i in range(sections):
        for j in range(points):
            calls += [("set", i, j, 0), ("gone",)]
    calls += [("section", 0, [400] * count) for count in range(1, 11)]
    calls += [("mark",), ("section", 0, [400] * points)]
    return calls


def seen(calls, sections, points):
    """What the probes answer behind these calls."""
    return ask(*calls, *probes(sections, points))[len(calls):]


def depths_after(calls, sections, points):
    asked = [("set", i, j, 0) for i in range(sections) for j in range(points)]
    told = ask(*calls, *asked)[len(calls):]
    return [[told[i * points + j][0] for j in range(points)] for i in range(sections)]
