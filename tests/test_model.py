"""Many lines of calls, compared with a second program; it finds bounds from all ends, the best from lines that meet."""

import random
import unittest
from fractions import Fraction

from lines import (begin, best, both, can, cell, chances, corners, count, laid, lower, people, point, reach, state, take,
                   upper, y_of_all_ends)
from reachedchances.groups import answers


def numbers_of(parts):
    return laid([[part.numerator, part.denominator] for part in map(Fraction, parts)])


def is_part(a, b):
    return 1 <= b <= 1000 and a <= b


class Model:
    """The second program: a call's name and its arguments are told apart here."""

    def __init__(self):
        self.k = 0

    def answer(self, name, given):
        if name == "begin":
            return self.begin(*given)
        if self.k == 0:
            return [-11]
        return getattr(self, name)(*given)

    def begin(self, k):
        if k not in (1, 2, 3, 4):
            return [-22]
        self.k = k
        self.cells = [[(0, 0)] * k, [(0, 0)] * k]
        self.by = [[Fraction(0)] * k, [Fraction(0)] * k]
        return [0]

    def count(self, g, s, y, n):
        if g > 1 or s >= self.k:
            return [-2]
        if max(y, n) > 99:
            return [-22]
        self.cells[g][s] = (y, n)
        return [y + n]

    def cell(self, g, s):
        return [-2] if g > 1 or s >= self.k else list(self.cells[g][s])

    def people(self, g):
        return [-2] if g > 1 else [sum(map(sum, self.cells[g])), sum(y for y, n in self.cells[g])]

    def chances(self, g, b, of_each):
        if g > 1:
            return [-2]
        if not 1 <= b <= 1000 or len(of_each) != self.k or max(of_each) > b:
            return [-22]
        self.by[g] = [Fraction(a, b) for a in of_each]
        return [0]

    def refusal(self, g, is_right):
        if g > 1:
            return [-2]
        if not is_right:
            return [-22]
        for cells in self.cells:
            if 0 in (sum(y for y, n in cells), sum(n for y, n in cells)):
                return [-33]
        return []

    def point(self, g):
        return self.refusal(g, True) or [0] + numbers_of(self.point_of(g))

    def point_of(self, g):
        return [
            sum(pair[which] * chance for pair, chance in zip(self.cells[g], self.by[g]))
            / sum(pair[which] for pair in self.cells[g])
            for which in (1, 0)
        ]

    def upper(self, g, a, b):
        return self.refusal(g, is_part(a, b)) or [0] + numbers_of([self.bounds(g, Fraction(a, b))[1]])

    def lower(self, g, a, b):
        return self.refusal(g, is_part(a, b)) or [0] + numbers_of([self.bounds(g, Fraction(a, b))[0]])

    def bounds(self, g, x):
        ends = y_of_all_ends(self.cells[g], x)
        return min(ends), max(ends)

    def is_reached(self, g, x, y):
        low, high = self.bounds(g, x)
        return low <= y <= high

    def can(self, g, a, b, c, d):
        refusal = self.refusal(g, is_part(a, b) and is_part(c, d))
        return refusal or [int(self.is_reached(g, Fraction(a, b), Fraction(c, d)))]

    def both(self, a, b, c, d):
        refusal = self.refusal(0, is_part(a, b) and is_part(c, d))
        return refusal or [int(all(self.is_reached(g, Fraction(a, b), Fraction(c, d)) for g in (0, 1)))]

    def in_order(self, g, most_first):
        """The scores in order, without those of nobody not so where the fewest come first."""
        cells = self.cells[g]
        there = [s for s, (y, n) in enumerate(cells) if n > 0 or (most_first and y > 0)]
        # A score with nobody not so stands at 10000, which no other one comes to.
        each = [y / (Fraction(n) or Fraction(y, 10000)) if y + n > 0 else None for y, n in cells]
        return sorted(there, key=lambda s: (-each[s] if most_first else each[s], s))

    def along(self, g, x, most_first):
        left = x * sum(n for y, n in self.cells[g])
        made = [Fraction(0)] * self.k
        for s in self.in_order(g, most_first):
            n = self.cells[g][s][1]
            made[s] = Fraction(1) if n <= left else left / n
            left -= min(n, left)
        return made

    def mix(self, g, x, y):
        low, high = self.bounds(g, x)
        m = (y - low) / (high - low) if high > low else Fraction(0)
        return [m * most + (1 - m) * few for most, few in zip(self.along(g, x, True), self.along(g, x, False))]

    def reach(self, g, a, b, c, d):
        refusal = self.refusal(g, is_part(a, b) and is_part(c, d))
        if refusal:
            return refusal
        x, y = Fraction(a, b), Fraction(c, d)
        if not self.is_reached(g, x, y):
            return [-34]
        self.by[g] = self.mix(g, x, y)
        return [self.k] + numbers_of(self.by[g])

    def corner_xs(self, g):
        everybody = sum(n for y, n in self.cells[g])
        order = self.in_order(g, True)
        return [Fraction(sum(self.cells[g][s][1] for s in order[:many]), everybody) for many in range(len(order) + 1)]

    def corners(self, g):
        if self.refusal(g, True):
            return self.refusal(g, True)
        xs = self.corner_xs(g)
        return [len(xs)] + numbers_of(part for x in xs for part in (x, self.bounds(g, x)[1]))

    def best_of(self, u, v):
        so, not_so = [sum(pair[which] for cells in self.cells for pair in cells) for which in (0, 1)]
        lines = [line for g in (0, 1) for line in self.lines(g)]
        # The lesser most is the least of all lines along the mosts: it turns only where two of them meet.
        xs = [Fraction(0), Fraction(1)] + [(q - t) / (s - p) for p, q in lines for s, t in lines if p != s]
        found = []
        for x in xs:
            if 0 <= x <= 1:
                y = min(slope * x + start for slope, start in lines + [(Fraction(0), Fraction(1))])
                found.append((-(u * so * y - v * not_so * x), x, y))
        worth, x, y = min(found)
        return x, y, -worth

    def lines(self, g):
        """The slope and the start, at x 0, of each piece of the group's most."""
        found = []
        xs = sorted(set(self.corner_xs(g)))
        for left, right in zip(xs, xs[1:]):
            low, high = self.bounds(g, left)[1], self.bounds(g, right)[1]
            slope = (high - low) / (right - left)
            found.append((slope, low - slope * left))
        return found

    def best(self, u, v):
        return self.refusal(0, max(u, v) <= 100) or [0] + numbers_of(self.best_of(u, v))

    def take(self, u, v):
        if self.refusal(0, max(u, v) <= 100):
            return self.refusal(0, max(u, v) <= 100)
        x, y, worth = self.best_of(u, v)
        self.by = [self.mix(g, x, y) for g in (0, 1)]
        return [0]

    def state(self):
        return [self.k] + numbers_of(self.by[0] + self.by[1])


LAID = {
    "begin": begin, "count": count, "cell": cell, "people": people, "chances": chances, "point": point, "upper": upper,
    "lower": lower, "can": can, "reach": reach, "both": both, "corners": corners, "best": best, "take": take,
    "state": state,
}


class Lines:
    """Lines of calls, always the same ones for the same seed."""

    def __init__(self, seed, most_people):
        self.source = random.Random(seed)
        self.most_people = most_people

    def pick(self, *given):
        return self.source.choice(given)

    def group(self):
        return self.source.choices((0, 1, 2), (20, 20, 1))[0]

    def many(self):
        return self.source.choices((self.source.randint(0, self.most_people), 0, 100), (20, 8, 1))[0]

    def part(self):
        b = self.source.choices((self.source.randint(1, 12), self.source.randint(1, 1000), 0, 1001), (20, 10, 1, 1))[0]
        return [self.source.choices((self.source.randint(0, b), 0, b, b + 1), (20, 3, 3, 1))[0], b]

    def worth(self):
        return self.source.choices((self.source.randint(0, 9), self.source.randint(0, 100), 0, 101), (20, 9, 3, 1))[0]

    def call(self, name, k):
        if name == "chances":
            b = self.part()[1]
            return [self.group(), b, [self.source.randint(0, b) for s in range(self.pick(k, k, k, k, k - 1, k + 1))]]
        given = {
            "begin": lambda: [self.pick(0, 1, 2, 3, 4, 5)],
            "count": lambda: [self.group(), self.source.randint(0, k if k < 4 else 3), self.many(), self.many()],
            "cell": lambda: [self.group(), self.source.randint(0, k)],
            "both": lambda: self.part() + self.part(),
            "best": lambda: [self.worth(), self.worth()],
            "take": lambda: [self.worth(), self.worth()],
            "state": lambda: [],
            "upper": lambda: [self.group()] + self.part(),
            "lower": lambda: [self.group()] + self.part(),
            "can": lambda: [self.group()] + self.part() + self.part(),
            "reach": lambda: [self.group()] + self.part() + self.part(),
        }
        return given.get(name, lambda: [self.group()])()

    def line(self):
        k = self.source.randint(1, 4)
        calls = [("begin", [k])]
        for g in (0, 1):
            calls += [("count", [g, s, self.many(), self.many()]) for s in range(k)]
        names = [name for name in LAID if name != "begin"] * 2 + ["begin"] + ["reach", "take", "best", "can", "both"] * 3
        while len(calls) < 40:
            name = self.pick(*names)
            calls.append((name, self.call(name, k)))
        # Some lines leave the begin out, so that another one, or none, comes later.
        return calls[self.pick(0, 0, 0, 0, 0, 0, 0, 0, 0, 1):]


class AgainstTheModel(unittest.TestCase):
    def compare(self, lines, how_many):
        answered = {}
        for turn in range(how_many):
            calls = lines.line()
            model = Model()
            expected = [model.answer(name, given) for name, given in calls]
            for (name, given), answer in zip(calls, expected):
                answered.setdefault(name, set()).add(min(answer[0], 0))
            handed_in = laid([LAID[name](*given) for name, given in calls])
            with self.subTest(calls=calls):
                self.assertEqual(answers(handed_in), laid([[len(answer)] + answer for answer in expected]))
        return answered

    def test_few_people(self):
        answered = self.compare(Lines(1, 6), 150)
        # The lines are of use only if they come to everything that each call can answer.
        self.assertEqual(answered["reach"], {0, -2, -11, -22, -33, -34})
        self.assertEqual(answered["can"], {0, -2, -11, -22, -33})
        self.assertEqual(answered["both"], {0, -11, -22, -33})
        self.assertEqual(answered["corners"], {0, -2, -11, -33})
        self.assertEqual(answered["best"], {0, -11, -22, -33})
        self.assertEqual(answered["take"], {0, -11, -22, -33})
        self.assertEqual(answered["state"], {0, -11})

    def test_many_people(self):
        self.compare(Lines(2, 99), 150)


if __name__ == "__main__":
    unittest.main()
