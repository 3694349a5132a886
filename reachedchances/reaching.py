"""What chances can reach in one group, and the chances that reach it."""

from reachedchances.choosing import fewest_chances, most_chances, scores_in_order
from reachedchances.parts import ONE, ZERO, is_less, minus, plus, product, quotient, reduced
from reachedchances.people import part_chosen


def most_y(group, x):
    """The most's y for x."""
    return part_chosen(group.so, most_chances(group, x))


def fewest_y(group, x):
    """The fewest's y for x."""
    return part_chosen(group.so, fewest_chances(group, x))


def can_reach(group, x, y):
    """Whether x and y can be reached in the group."""
    return not is_less(y, fewest_y(group, x)) and not is_less(most_y(group, x), y)


def share_of_most(low, high, y):
    """How much more y is than low, by how much more high is; 0 if low and high are the same."""
    if low == high:
        return ZERO
    return quotient(minus(y, low), minus(high, low))


def chances_for(group, x, y):
    """The chances for x and y, which can be reached in the group."""
    share = share_of_most(fewest_y(group, x), most_y(group, x), y)
    rest = minus(ONE, share)
    most = most_chances(group, x)
    fewest = fewest_chances(group, x)
    return [plus(product(of_most, share), product(of_fewest, rest)) for of_most, of_fewest in zip(most, fewest)]


def corner_xs(group):
    """0, then, score by score in order, the part of those who turned out not so up to there."""
    everybody = sum(group.not_so)
    passed = 0
    xs = [ZERO]
    for score in scores_in_order(group):
        passed = passed + group.not_so[score]
        xs.append(reduced(passed, everybody))
    return xs
