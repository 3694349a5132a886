"""The calls on one object, which holds two groups, and what they answer."""

from reachedchances.choosing import fewest_chances, most_chances
from reachedchances.parts import reduced
from reachedchances.people import Group, lacks_somebody, part_chosen

NO_SUCH = -2
NOT_BEGUN = -11
NOT_RIGHT = -22
LACKING = -33

MOST_SCORES = 4
MOST_PEOPLE = 99
MOST_LOWER = 1000

BEGIN = 0
CHANCES = 4


class Table:
    """What the calls work on: how many scores (0 before a begin), and the two groups."""

    def __init__(self):
        self.scores = 0
        self.groups = []


def has_group(table, g):
    """Whether there is a group g."""
    return g < len(table.groups)


def has_cell(table, g, s):
    """Whether there is a group g and a score s."""
    return has_group(table, g) and s < table.scores


def is_lower(number):
    """Whether a number may be the lower one of a part or of chances."""
    return 1 <= number and number <= MOST_LOWER


def is_part(upper, lower):
    """Whether upper by lower may be told as a part."""
    return is_lower(lower) and upper <= lower


def is_somebody_lacking(table):
    """Whether some group has nobody who turned out so, or nobody who turned out not so."""
    return any([lacks_somebody(group) for group in table.groups])


def answer_begin(table, numbers):
    """begin (k)"""
    scores = numbers[0]
    if scores < 1 or scores > MOST_SCORES:
        return [NOT_RIGHT]
    table.scores = scores
    table.groups = [Group(scores), Group(scores)]
    return [0]


def answer_count(table, numbers):
    """count (g, s, y, n)"""
    g = numbers[0]
    s = numbers[1]
    so = numbers[2]
    not_so = numbers[3]
    if not has_cell(table, g, s):
        return [NO_SUCH]
    if so > MOST_PEOPLE or not_so > MOST_PEOPLE:
        return [NOT_RIGHT]
    table.groups[g].so[s] = so
    table.groups[g].not_so[s] = not_so
    return [so + not_so]


def answer_cell(table, numbers):
    """cell (g, s)"""
    g = numbers[0]
    s = numbers[1]
    if not has_cell(table, g, s):
        return [NO_SUCH]
    return [table.groups[g].so[s], table.groups[g].not_so[s]]


def answer_people(table, numbers):
    """people (g)"""
    g = numbers[0]
    if not has_group(table, g):
        return [NO_SUCH]
    so = sum(table.groups[g].so)
    return [so + sum(table.groups[g].not_so), so]


def answer_chances(table, numbers):
    """chances (g, b, l); how many numbers l has stands before it"""
    g = numbers[0]
    lower = numbers[1]
    of_each = numbers[3:]
    if not has_group(table, g):
        return [NO_SUCH]
    if len(of_each) != table.scores or not all([is_part(upper, lower) for upper in of_each]):
        return [NOT_RIGHT]
    table.groups[g].chances = [reduced(upper, lower) for upper in of_each]
    return [0]


def answer_point(table, numbers):
    """point (g)"""
    g = numbers[0]
    if not has_group(table, g):
        return [NO_SUCH]
    if is_somebody_lacking(table):
        return [LACKING]
    group = table.groups[g]
    x = part_chosen(group.not_so, group.chances)
    y = part_chosen(group.so, group.chances)
    return [0, x[0], x[1], y[0], y[1]]


def answer_bound(table, numbers, chances_for):
    """The y of a group's chances for x a by b, where the numbers are g, a, b."""
    g = numbers[0]
    x = (numbers[1], numbers[2])
    if not has_group(table, g):
        return [NO_SUCH]
    if not is_part(x[0], x[1]):
        return [NOT_RIGHT]
    if is_somebody_lacking(table):
        return [LACKING]
    group = table.groups[g]
    y = part_chosen(group.so, chances_for(group, x))
    return [0, y[0], y[1]]


def answer_upper(table, numbers):
    """upper (g, a, b)"""
    return answer_bound(table, numbers, most_chances)


def answer_lower(table, numbers):
    """lower (g, a, b)"""
    return answer_bound(table, numbers, fewest_chances)


# Both by a call's number: what answers it, and how many numbers stand behind that number ahead of a row's own.
ANSWERING = (
    answer_begin,
    answer_count,
    answer_cell,
    answer_people,
    answer_chances,
    answer_point,
    answer_upper,
    answer_lower,
)
SIZES = (1, 4, 2, 1, 3, 1, 3, 3)


def end_of_call(calls, start):
    """The place behind the call that starts at this place."""
    number = calls[start]
    end = start + 1 + SIZES[number]
    if number == CHANCES:
        end = end + calls[end - 1]
    return end


def answer_call(table, number, numbers):
    """What one call answers, as a list."""
    if number != BEGIN and table.scores == 0:
        return [NOT_BEGUN]
    return ANSWERING[number](table, numbers)


def answers(calls):
    """For each call, in order, how many numbers are answered, then these."""
    table = Table()
    answered = []
    start = 0
    while start < len(calls):
        end = end_of_call(calls, start)
        answer = answer_call(table, calls[start], calls[start + 1:end])
        answered.append(len(answer))
        answered.extend(answer)
        start = end
    return answered
