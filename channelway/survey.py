"""Soundings: depths across a channel, section by section, and the calls on them."""

NOT_THERE = -2
NONE_YET = -6
NOT_BEGUN = -11
MARKED_ALREADY = -16
OUT_OF_RANGE = -22
TOO_MANY = -28

MOST_SECTIONS = 12
DEEPEST = 400
WIDEST_TURN = 8
PARTS_OF_CUBIC_METRE = 40


class Survey:
    """What the calls of one list work on; depths and designs stand section by section."""

    def __init__(self):
        self.begun = False
        self.points = 0
        self.step = 0
        self.apart = 0
        self.over = 0
        self.designs = []
        self.depths = []
        # Only a survey that has a section can be marked, so no rows here means not marked.
        self.marked = []


def has_section(survey, i):
    return i < len(survey.depths)


def has_point(survey, i, j):
    return has_section(survey, i) and j < survey.points


def neighbour_sum(values):
    """Each two values beside each other together, all that together; 0 for a single value."""
    return sum([values[k] + values[k + 1] for k in range(len(values) - 1)])


def twice_area(survey, heights):
    return survey.step * neighbour_sum(heights)


def volume_by(survey, rows):
    """The volume by rows of heights, a row a section: whole cubic metres, then fortieths."""
    areas = [twice_area(survey, heights) for heights in rows]
    # Rounded once, at the end: fortieths of several parts may make a cubic metre.
    total = survey.apart * neighbour_sum(areas)
    return [total // PARTS_OF_CUBIC_METRE, total % PARTS_OF_CUBIC_METRE]


def short_of(row, wanted):
    return [max(wanted - depth, 0) for depth in row]


def deeper_than(row, other):
    return [max(row[j] - other[j], 0) for j in range(len(row))]


def to_be_dug(survey, i):
    return short_of(survey.depths[i], survey.designs[i])


def too_deep(survey, i):
    allowed = survey.designs[i] + survey.over
    return [max(depth - allowed, 0) for depth in survey.depths[i]]


def high_points(survey, i):
    return [j for j in range(survey.points) if survey.depths[i][j] < survey.designs[i]]


def deepest_onward(rows, k):
    """By section and point: how deep the deepest way is from there on to the last section."""
    found = [list(rows[-1])]
    for row in reversed(rows[:-1]):
        ahead = found[-1]
        found.append([min(row[j], max(ahead[max(j - k, 0):j + k + 1])) for j in range(len(row))])
    found.reverse()
    return found


def begin(survey, points, step, apart, over):
    if points < 2 or points > 9 or step < 1 or step > 50:
        return [OUT_OF_RANGE]
    if apart < 1 or apart > 100 or over > 50:
        return [OUT_OF_RANGE]
    survey.begun = True
    survey.points = points
    survey.step = step
    survey.apart = apart
    survey.over = over
    survey.designs = []
    survey.depths = []
    survey.marked = []
    return [0]


def add_section(survey, d, depths):
    if len(depths) != survey.points or max(depths) > DEEPEST or d > DEEPEST:
        return [OUT_OF_RANGE]
    if len(survey.marked) > 0:
        return [MARKED_ALREADY]
    if len(survey.depths) == MOST_SECTIONS:
        return [TOO_MANY]
    survey.designs.append(d)
    survey.depths.append(list(depths))
    return [len(survey.depths) - 1]


def set_depth(survey, i, j, d):
    if not has_point(survey, i, j):
        return [NOT_THERE]
    if d > DEEPEST:
        return [OUT_OF_RANGE]
    before = survey.depths[i][j]
    survey.depths[i][j] = d
    return [before]


def set_design(survey, i, d):
    if not has_section(survey, i):
        return [NOT_THERE]
    if d > DEEPEST:
        return [OUT_OF_RANGE]
    before = survey.designs[i]
    survey.designs[i] = d
    return [before]


def dug(survey, i, j, n):
    if not has_point(survey, i, j):
        return [NOT_THERE]
    deeper = survey.depths[i][j] + n
    if n == 0 or deeper > DEEPEST:
        return [OUT_OF_RANGE]
    survey.depths[i][j] = deeper
    return [deeper]


def sweep(survey, i, n):
    if not has_section(survey, i):
        return [NOT_THERE]
    if n < 1 or n > DEEPEST:
        return [OUT_OF_RANGE]
    wanted = survey.designs[i]
    before = survey.depths[i]
    survey.depths[i] = [min(depth + n, wanted) if depth < wanted else depth for depth in before]
    return [len([depth for depth in before if depth < wanted])]


def silt(survey, n):
    if n < 1 or n > DEEPEST:
        return [OUT_OF_RANGE]
    silted = []
    above_none = 0
    for row in survey.depths:
        above_none += len([depth for depth in row if depth > 0])
        silted.append([max(depth - n, 0) for depth in row])
    survey.depths = silted
    return [above_none]


def mark(survey):
    if len(survey.depths) == 0:
        return [NONE_YET]
    survey.marked = [list(row) for row in survey.depths]
    return [len(survey.marked)]


def area(survey, i):
    if not has_section(survey, i):
        return [NOT_THERE]
    return [twice_area(survey, to_be_dug(survey, i)), twice_area(survey, too_deep(survey, i))]


def volume(survey):
    return volume_by(survey, [to_be_dug(survey, i) for i in range(len(survey.depths))])


def between(survey, i, k):
    if not has_section(survey, i) or not has_section(survey, k):
        return [NOT_THERE]
    if k <= i:
        return [OUT_OF_RANGE]
    return volume_by(survey, [to_be_dug(survey, m) for m in range(i, k + 1)])


def wasted(survey):
    return volume_by(survey, [too_deep(survey, i) for i in range(len(survey.depths))])


def gone(survey):
    if len(survey.marked) == 0:
        return [NONE_YET]
    sections = len(survey.depths)
    went = [deeper_than(survey.depths[i], survey.marked[i]) for i in range(sections)]
    came = [deeper_than(survey.marked[i], survey.depths[i]) for i in range(sections)]
    return volume_by(survey, went) + volume_by(survey, came)


def least(survey, i):
    if not has_section(survey, i):
        return [NOT_THERE]
    row = survey.depths[i]
    return [min(row), row.index(min(row))]


def bar(survey):
    if len(survey.depths) == 0:
        return [NONE_YET]
    depths = [min(row) for row in survey.depths]
    i = depths.index(min(depths))
    return [depths[i], i, survey.depths[i].index(depths[i])]


def high(survey, i):
    if not has_section(survey, i):
        return [NOT_THERE]
    points = high_points(survey, i)
    return [len(points)] + points


def clear_or_not(survey, i):
    if not has_section(survey, i):
        return [NOT_THERE]
    return [1 if len(high_points(survey, i)) == 0 else 0]


def cleared(survey):
    sections = [i for i in range(len(survey.depths)) if len(high_points(survey, i)) == 0]
    return [len(sections)] + sections


def way(survey, k):
    if k > WIDEST_TURN:
        return [OUT_OF_RANGE]
    if len(survey.depths) == 0:
        return [NONE_YET]
    onward = deepest_onward(survey.depths, k)
    deep = max(onward[0])
    points = []
    start = 0
    end = survey.points
    for row in onward:
        # The least point from which it stays so deep to the end: so of like ways the first is told.
        j = min([m for m in range(start, end) if row[m] >= deep])
        points.append(j)
        start = max(j - k, 0)
        end = min(j + k + 1, survey.points)
    return [deep] + points


def wide(survey, i, d):
    if not has_section(survey, i):
        return [NOT_THERE]
    longest = 0
    together = 0
    for depth in survey.depths[i]:
        together = together + 1 if depth >= d else 0
        longest = max(longest, together)
    return [longest]


def worst(survey):
    if len(survey.depths) == 0:
        return [NONE_YET]
    areas = [twice_area(survey, to_be_dug(survey, i)) for i in range(len(survey.depths))]
    return [areas.index(max(areas)), max(areas)]


def look(survey, i):
    if not has_section(survey, i):
        return [NOT_THERE]
    return [survey.designs[i]] + survey.depths[i]


def level(survey, d):
    if d > DEEPEST:
        return [OUT_OF_RANGE]
    return volume_by(survey, [short_of(row, d) for row in survey.depths])


def state(survey):
    marked = 1 if len(survey.marked) > 0 else 0
    return [0, len(survey.depths), survey.points, survey.step, survey.apart, survey.over, marked]


# By a call's number: what carries it out, how many whole numbers it has, how many rows.
CALLS = (
    (begin, 4, 0),
    (add_section, 1, 1),
    (set_depth, 3, 0),
    (set_design, 2, 0),
    (dug, 3, 0),
    (sweep, 2, 0),
    (silt, 1, 0),
    (mark, 0, 0),
    (area, 1, 0),
    (volume, 0, 0),
    (between, 2, 0),
    (wasted, 0, 0),
    (gone, 0, 0),
    (least, 1, 0),
    (bar, 0, 0),
    (high, 1, 0),
    (clear_or_not, 1, 0),
    (cleared, 0, 0),
    (way, 1, 0),
    (wide, 2, 0),
    (worst, 0, 0),
    (look, 1, 0),
    (level, 1, 0),
    (state, 0, 0),
)


def given_at(calls, at):
    """The whole numbers, then the rows, of the call whose number is at this place; and where it ends."""
    entry = CALLS[calls[at]]
    end = at + 1 + entry[1]
    given = calls[at + 1:end]
    for row in range(entry[2]):
        start = end + 1
        end = start + calls[end]
        given.append(calls[start:end])
    return (given, end)


def carry_out(act, survey, given):
    # One branch for each length, as no star may spread a list over parameters.
    if len(given) == 0:
        return act(survey)
    if len(given) == 1:
        return act(survey, given[0])
    if len(given) == 2:
        return act(survey, given[0], given[1])
    if len(given) == 3:
        return act(survey, given[0], given[1], given[2])
    return act(survey, given[0], given[1], given[2], given[3])


def answer_of(survey, number, given):
    if number > 0 and not survey.begun:
        return [NOT_BEGUN]
    return carry_out(CALLS[number][0], survey, given)


def answers(calls):
    """For each call in turn how many numbers it answers, then these."""
    survey = Survey()
    told = []
    at = 0
    while at < len(calls):
        found = given_at(calls, at)
        numbers = answer_of(survey, calls[at], found[0])
        told.append(len(numbers))
        told.extend(numbers)
        at = found[1]
    return told
