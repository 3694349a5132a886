"""Calls as they are laid into a list, and a test case that compares whole lists of answers."""

import itertools
import unittest
from fractions import Fraction

from reachedchances.groups import answers

BIG = 4294967295


def begin(k):
    return [0, k]


def count(g, s, y, n):
    return [1, g, s, y, n]


def cell(g, s):
    return [2, g, s]


def people(g):
    return [3, g]


def chances(g, b, of_each):
    return [4, g, b, len(of_each)] + of_each


def point(g):
    return [5, g]


def upper(g, a, b):
    return [6, g, a, b]


def lower(g, a, b):
    return [7, g, a, b]


def can(g, a, b, c, d):
    return [8, g, a, b, c, d]


def reach(g, a, b, c, d):
    return [9, g, a, b, c, d]


def both(a, b, c, d):
    return [10, a, b, c, d]


def corners(g):
    return [11, g]


def best(u, v):
    return [12, u, v]


def take(u, v):
    return [13, u, v]


def state():
    return [14]


def laid(parts):
    """The lists one behind another in one list."""
    return [number for part in parts for number in part]


def counts(g, cells):
    """Pairs of a count and its answer, for each score's (so, not so)."""
    return [(count(g, s, y, n), [y + n]) for s, (y, n) in enumerate(cells)]


def told(first, second):
    """A begin and all counts of both groups, each with its answer."""
    return [(begin(len(first)), [0])] + counts(0, first) + counts(1, second)


def y_of_all_ends(cells, x):
    """The y of all chances that make x and have at most one score chosen neither whole nor not at all.

    The greatest and the least y for x are among these, whatever the order of scores.
    """
    wanted = x * sum(n for y, n in cells)
    found = []
    for whole in itertools.product((0, 1), repeat=len(cells)):
        rest = wanted - sum(n for (y, n), chosen in zip(cells, whole) if chosen)
        chosen_so = sum(y for (y, n), chosen in zip(cells, whole) if chosen)
        if rest == 0:
            found.append(Fraction(chosen_so))
        for (y, n), chosen in zip(cells, whole):
            if not chosen and 0 < rest < n:
                found.append(chosen_so + y * rest / n)
    return [y / sum(y for y, n in cells) for y in found]


class LineCase(unittest.TestCase):
    def asked(self, *pairs):
        """Each pair is a call and what it answers; the whole list given back is compared."""
        calls = laid([call for call, answer in pairs])
        expected = laid([[len(answer)] + answer for call, answer in pairs])
        self.assertEqual(answers(calls), expected)
