"""Scores in order, and the chances that choose the most and the fewest."""

from reachedchances.parts import ONE, ZERO, reduced


def has_more_so(group, first, second):
    """Whether the first score has more who turned out so for each who did not."""
    # Multiplied across, a score with nobody who turned out not so is ahead without a case of its own.
    return group.so[first] * group.not_so[second] > group.so[second] * group.not_so[first]


def put_in_order(given, is_ahead):
    """What is given, each behind those that it is not ahead of; like ones stay as they came."""
    order = []
    for one in given:
        place = 0
        while place < len(order) and not is_ahead(one, order[place]):
            place = place + 1
        order.insert(place, one)
    return order


def scores_in_order(group):
    """The scores with somebody, the most who turned out so first, of like ones the lesser."""
    present = [s for s in range(len(group.so)) if group.so[s] + group.not_so[s] > 0]
    return put_in_order(present, lambda first, second: has_more_so(group, first, second))


def scores_from_other_end(group):
    """The scores with somebody who turned out not so, the fewest first, of like ones the lesser."""
    present = [s for s in range(len(group.so)) if group.not_so[s] > 0]
    return put_in_order(present, lambda first, second: has_more_so(group, second, first))


def chances_along(group, order, x):
    """Chances that choose along the order until the part x of those who turned out not so is chosen."""
    chances = [ZERO] * len(group.so)
    # Everybody is counted x's lower number of times, so that all stays whole.
    left = x[0] * sum(group.not_so)
    for score in order:
        needed = x[1] * group.not_so[score]
        taken = min(needed, left)
        chances[score] = ONE if needed == 0 else reduced(taken, needed)
        left = left - taken
    return chances


def most_chances(group, x):
    """The chances of the most for x."""
    return chances_along(group, scores_in_order(group), x)


def fewest_chances(group, x):
    """The chances of the fewest for x."""
    return chances_along(group, scores_from_other_end(group), x)
