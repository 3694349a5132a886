"""Calls as they are laid into a list, and a test case that compares whole lists of answers."""

import unittest

from reachedchances.groups import answers

BIG = 4294967295


def begin(k):
    return [0, k]


def count(g, s, y, n):
    return [1, g, s, y, n]


def cell(g, s):
    return [2, g, s]


def people(g):
    return [3, g]


def chances(g, b, of_each):
    return [4, g, b, len(of_each)] + of_each


def point(g):
    return [5, g]


def upper(g, a, b):
    return [6, g, a, b]


def lower(g, a, b):
    return [7, g, a, b]


def laid(parts):
    """The lists one behind another in one list."""
    return [number for part in parts for number in part]


def counts(g, cells):
    """Pairs of a count and its answer, for each score's (so, not so)."""
    return [(count(g, s, y, n), [y + n]) for s, (y, n) in enumerate(cells)]


def told(first, second):
    """A begin and all counts of both groups, each with its answer."""
    return [(begin(len(first)), [0])] + counts(0, first) + counts(1, second)


class LineCase(unittest.TestCase):
    def asked(self, *pairs):
        """Each pair is a call and what it answers; the whole list given back is compared."""
        calls = laid([call for call, answer in pairs])
        expected = laid([[len(answer)] + answer for call, answer in pairs])
        self.assertEqual(answers(calls), expected)
