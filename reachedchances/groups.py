"""The calls on one object, which holds two groups, and what they answer."""

from reachedchances.parts import reduced
from reachedchances.people import Group, lacks_somebody, part_chosen
from reachedchances.reaching import can_reach, chances_for, corner_xs, fewest_y, most_y
from reachedchances.worth import best_of

NO_SUCH = -2
NOT_BEGUN = -11
NOT_RIGHT = -22
LACKING = -33
NOT_REACHED = -34
NOT_REFUSED = 0

MOST_SCORES = 4
MOST_PEOPLE = 99
MOST_LOWER = 1000
MOST_GAIN = 100

BEGIN = 0
CHANCES = 4


class Table:
    """What the calls work on: how many scores (0 before a begin), and the two groups."""

    def __init__(self):
        self.scores = 0
        self.groups = []


def has_group(table, g):
    """Whether there is a group g."""
    return g < len(table.groups)


def has_cell(table, g, s):
    """Whether there is a group g and a score s."""
    return has_group(table, g) and s < table.scores


def is_lower(number):
    """Whether a number may be the lower one of a part or of chances."""
    return 1 <= number and number <= MOST_LOWER


def is_part(upper, lower):
    """Whether upper by lower may be told as a part."""
    return is_lower(lower) and upper <= lower


def are_parts(numbers):
    """Whether a, b, c, d may be told as parts, a by b and c by d."""
    return is_part(numbers[0], numbers[1]) and is_part(numbers[2], numbers[3])


def are_gain_and_loss(numbers):
    """Whether u, v may be told as a gain and a loss."""
    return numbers[0] <= MOST_GAIN and numbers[1] <= MOST_GAIN


def is_somebody_lacking(table):
    """Whether some group has nobody who turned out so, or nobody who turned out not so."""
    return any([lacks_somebody(group) for group in table.groups])


def refusal_of_both(table, is_right):
    """The refusal that is due of a call on both groups, where it is told whether what is given is right."""
    if not is_right:
        return NOT_RIGHT
    if is_somebody_lacking(table):
        return LACKING
    return NOT_REFUSED


def refusal_of_one(table, g, is_right):
    """The refusal that is due of a call on group g, likewise."""
    if not has_group(table, g):
        return NO_SUCH
    return refusal_of_both(table, is_right)


def laid_out(parts):
    """The fractions' numbers one behind another."""
    numbers = []
    for part in parts:
        numbers.extend(part)
    return numbers


def answer_begin(table, numbers):
    """begin (k)"""
    scores = numbers[0]
    if scores < 1 or scores > MOST_SCORES:
        return [NOT_RIGHT]
    table.scores = scores
    table.groups = [Group(scores), Group(scores)]
    return [0]


def answer_count(table, numbers):
    """count (g, s, y, n)"""
    g = numbers[0]
    s = numbers[1]
    so = numbers[2]
    not_so = numbers[3]
    if not has_cell(table, g, s):
        return [NO_SUCH]
    if so > MOST_PEOPLE or not_so > MOST_PEOPLE:
        return [NOT_RIGHT]
    table.groups[g].so[s] = so
    table.groups[g].not_so[s] = not_so
    return [so + not_so]


def answer_cell(table, numbers):
    """cell (g, s)"""
    g = numbers[0]
    s = numbers[1]
    if not has_cell(table, g, s):
        return [NO_SUCH]
    return [table.groups[g].so[s], table.groups[g].not_so[s]]


def answer_people(table, numbers):
    """people (g)"""
    g = numbers[0]
    if not has_group(table, g):
        return [NO_SUCH]
    so = sum(table.groups[g].so)
    return [so + sum(table.groups[g].not_so), so]


def answer_chances(table, numbers):
    """chances (g, b, l); how many numbers l has stands before it"""
    g = numbers[0]
    lower = numbers[1]
    of_each = numbers[3:]
    if not has_group(table, g):
        return [NO_SUCH]
    if len(of_each) != table.scores or not all([is_part(upper, lower) for upper in of_each]):
        return [NOT_RIGHT]
    table.groups[g].chances = [reduced(upper, lower) for upper in of_each]
    return [0]


def answer_point(table, numbers):
    """point (g)"""
    g = numbers[0]
    refusal = refusal_of_one(table, g, True)
    if refusal != NOT_REFUSED:
        return [refusal]
    group = table.groups[g]
    x = part_chosen(group.not_so, group.chances)
    y = part_chosen(group.so, group.chances)
    return [0] + laid_out([x, y])


def answer_bound(table, numbers, bound):
    """The bound that a group has for x a by b, where the numbers are g, a, b."""
    g = numbers[0]
    refusal = refusal_of_one(table, g, is_part(numbers[1], numbers[2]))
    if refusal != NOT_REFUSED:
        return [refusal]
    return [0] + laid_out([bound(table.groups[g], reduced(numbers[1], numbers[2]))])


def answer_upper(table, numbers):
    """upper (g, a, b)"""
    return answer_bound(table, numbers, most_y)


def answer_lower(table, numbers):
    """lower (g, a, b)"""
    return answer_bound(table, numbers, fewest_y)


def answer_can(table, numbers):
    """can (g, a, b, c, d)"""
    g = numbers[0]
    refusal = refusal_of_one(table, g, are_parts(numbers[1:]))
    if refusal != NOT_REFUSED:
        return [refusal]
    x = reduced(numbers[1], numbers[2])
    y = reduced(numbers[3], numbers[4])
    return [1 if can_reach(table.groups[g], x, y) else 0]


def answer_reach(table, numbers):
    """reach (g, a, b, c, d)"""
    g = numbers[0]
    refusal = refusal_of_one(table, g, are_parts(numbers[1:]))
    if refusal != NOT_REFUSED:
        return [refusal]
    group = table.groups[g]
    x = reduced(numbers[1], numbers[2])
    y = reduced(numbers[3], numbers[4])
    if not can_reach(group, x, y):
        return [NOT_REACHED]
    group.chances = chances_for(group, x, y)
    return [table.scores] + laid_out(group.chances)


def answer_both(table, numbers):
    """both (a, b, c, d)"""
    refusal = refusal_of_both(table, are_parts(numbers))
    if refusal != NOT_REFUSED:
        return [refusal]
    x = reduced(numbers[0], numbers[1])
    y = reduced(numbers[2], numbers[3])
    return [1 if all([can_reach(group, x, y) for group in table.groups]) else 0]


def answer_corners(table, numbers):
    """corners (g)"""
    g = numbers[0]
    refusal = refusal_of_one(table, g, True)
    if refusal != NOT_REFUSED:
        return [refusal]
    group = table.groups[g]
    xs = corner_xs(group)
    answer = [len(xs)]
    for x in xs:
        answer.extend(laid_out([x, most_y(group, x)]))
    return answer


def answer_best(table, numbers):
    """best (u, v)"""
    refusal = refusal_of_both(table, are_gain_and_loss(numbers))
    if refusal != NOT_REFUSED:
        return [refusal]
    return [0] + laid_out(best_of(table.groups, numbers[0], numbers[1]))


def answer_take(table, numbers):
    """take (u, v)"""
    refusal = refusal_of_both(table, are_gain_and_loss(numbers))
    if refusal != NOT_REFUSED:
        return [refusal]
    best = best_of(table.groups, numbers[0], numbers[1])
    for group in table.groups:
        group.chances = chances_for(group, best[0], best[1])
    return [0]


def answer_state(table, numbers):
    """state (), which has no numbers"""
    return [table.scores] + laid_out(table.groups[0].chances + table.groups[1].chances)


# Both by a call's number: what answers it, and how many numbers stand behind that number ahead of a row's own.
ANSWERING = (
    answer_begin,
    answer_count,
    answer_cell,
    answer_people,
    answer_chances,
    answer_point,
    answer_upper,
    answer_lower,
    answer_can,
    answer_reach,
    answer_both,
    answer_corners,
    answer_best,
    answer_take,
    answer_state,
)
SIZES = (1, 4, 2, 1, 3, 1, 3, 3, 5, 5, 4, 1, 2, 2, 0)


def end_of_call(calls, start):
    """The place behind the call that starts at this place."""
    number = calls[start]
    end = start + 1 + SIZES[number]
    if number == CHANCES:
        end = end + calls[end - 1]
    return end


def answer_call(table, number, numbers):
    """What one call answers, as a list."""
    if number != BEGIN and table.scores == 0:
        return [NOT_BEGUN]
    return ANSWERING[number](table, numbers)


def answers(calls):
    """For each call, in order, how many numbers are answered, then these."""
    table = Table()
    answered = []
    start = 0
    while start < len(calls):
        end = end_of_call(calls, start)
        answer = answer_call(table, calls[start], calls[start + 1:end])
        answered.append(len(answer))
        answered.extend(answer)
        start = end
    return answered
