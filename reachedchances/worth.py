"""What a choice is worth that is alike in both groups, and the best one."""

from reachedchances.choosing import put_in_order
from reachedchances.parts import is_less, lesser, minus, plus, product, quotient, size, times
from reachedchances.reaching import corner_xs, most_y


def worth_of(groups, gain, loss, x, y):
    """What x and y are worth, for both groups alike."""
    so = sum([sum(group.so) for group in groups])
    not_so = sum([sum(group.not_so) for group in groups])
    return minus(times(y, gain * so), times(x, loss * not_so))


def lead_of_first(groups, x):
    """How much more the first group's most is for x than the second's."""
    return minus(most_y(groups[0], x), most_y(groups[1], x))


def crossings_between(groups, left, right):
    """The x at which the mosts cross between two neighbouring corners, in a list of one, or of none."""
    lead_left = lead_of_first(groups, left)
    lead_right = lead_of_first(groups, right)
    if lead_left[0] * lead_right[0] >= 0:
        return []
    # Both mosts are straight there, so the way to the crossing is shared as the leads are.
    share = quotient(size(lead_left), plus(size(lead_left), size(lead_right)))
    return [plus(left, product(minus(right, left), share))]


def turning_xs(groups):
    """Every x at which the lesser of both mosts may turn, and 0 and 1, the least first."""
    corners = put_in_order(corner_xs(groups[0]) + corner_xs(groups[1]), is_less)
    xs = [corners[0]]
    for left, right in zip(corners, corners[1:]):
        xs.extend(crossings_between(groups, left, right))
        xs.append(right)
    return xs


def best_of(groups, gain, loss):
    """The best's x and y, and what it is worth."""
    best = None
    # The lesser most is straight between two turns, so nothing there is worth more than at both of them.
    for x in turning_xs(groups):
        y = lesser(most_y(groups[0], x), most_y(groups[1], x))
        worth = worth_of(groups, gain, loss, x, y)
        if best is None or is_less(best[2], worth):
            best = (x, y, worth)
    return best
