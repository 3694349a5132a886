"""The people of one group, and the chances by which they are chosen."""

from reachedchances.parts import ZERO, divided, plus, times


class Group:
    """For each score: how many turned out so, how many not so, and the chance."""

    def __init__(self, scores):
        self.so = [0] * scores
        self.not_so = [0] * scores
        self.chances = [ZERO] * scores


def lacks_somebody(group):
    """Whether nobody turned out so, or nobody turned out not so."""
    return sum(group.so) == 0 or sum(group.not_so) == 0


def part_chosen(people, chances):
    """The part of these people, told for each score, that is chosen in the mean."""
    chosen = ZERO
    for many, chance in zip(people, chances):
        chosen = plus(chosen, times(chance, many))
    return divided(chosen, sum(people))
