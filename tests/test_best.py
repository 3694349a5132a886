"""corners, best and take."""

import itertools
import unittest
from fractions import Fraction

from lines import (BIG, LineCase, begin, best, both, chances, corners, count, laid, point, reach, state, take, told,
                   y_of_all_ends)
from reachedchances.groups import answers
from reachedchances.parts import minus, reduced
from reachedchances.people import Group
from reachedchances.worth import worth_of

PLAIN = [(1, 1)]

# The mosts cross at x 1 by 5, y 3 by 5, within both groups' scores; 6 turned out so, 6 not so.
# Group 0: 3x up to 1 by 4, then flatter. Group 1: half, and half of x.
CROSSING = told([(3, 1), (1, 3)], [(1, 0), (1, 2)])

# Group 1's most is below group 0's everywhere but at 0 and 1; 7 turned out so, 7 not so.
BELOW = told([(3, 1), (1, 3)], [(2, 1), (1, 2)])


def whole(*numbers):
    """Whole numbers as fractions, one behind another."""
    return [number for upper in numbers for number in (upper, 1)]


class Corners(LineCase):
    def test_refusals(self):
        for g in (2, BIG):
            self.asked(*told(PLAIN, PLAIN), (corners(g), [-2]))
            self.asked((begin(1), [0]), (corners(g), [-2]))
        for lacking in ([(1, 0)], [(0, 1)], [(0, 0)]):
            self.asked(*told(lacking, PLAIN), (corners(0), [-33]), (corners(1), [-33]))
            self.asked(*told(PLAIN, lacking), (corners(0), [-33]), (corners(1), [-33]))

    def test_one_score(self):
        self.asked(
            *told(PLAIN, [(99, 7)]),
            (corners(0), [2] + whole(0, 0, 1, 1)),
            (corners(1), [2] + whole(0, 0, 1, 1)),
        )

    def test_score_by_score_in_order(self):
        # In order: score 2 (4 by 1), 0 (3 by 2), 3 (1 by 2), 1 (2 by 5).
        self.asked(
            *told([(3, 2), (2, 5), (4, 1), (1, 2)], [(1, 1)] * 4),
            (corners(0), [5, 0, 1, 0, 1, 1, 10, 2, 5, 3, 10, 7, 10, 1, 2, 4, 5, 1, 1, 1, 1]),
            (corners(1), [5, 0, 1, 0, 1, 1, 4, 1, 4, 1, 2, 1, 2, 3, 4, 3, 4, 1, 1, 1, 1]),
        )

    def test_scores_with_nobody_who_turned_out_not_so(self):
        # All of these are chosen for x 0 already, and each of them has a corner there.
        self.asked(
            *told([(2, 2), (3, 0), (0, 0), (1, 0)], [(5, 0), (0, 3), (0, 0), (0, 0)]),
            (corners(0), [4, 0, 1, 2, 3, 0, 1, 2, 3, 0, 1, 2, 3, 1, 1, 1, 1]),
            (corners(1), [3] + whole(0, 1, 0, 1, 1, 1)),
        )

    def test_scores_with_nobody_who_turned_out_so(self):
        self.asked(
            *told([(0, 1), (2, 1), (0, 2)], [(1, 1), (0, 0), (0, 3)]),
            (corners(0), [4, 0, 1, 0, 1, 1, 4, 1, 1, 1, 2, 1, 1, 1, 1, 1, 1]),
            (corners(1), [3, 0, 1, 0, 1, 1, 4, 1, 1, 1, 1, 1, 1]),
        )

    def test_like_scores(self):
        # Score 1 is ahead; of the like ones score 0 comes ahead of score 2.
        self.asked(
            *told([(1, 2), (5, 1), (2, 4)], [(2, 4), (0, 0), (1, 2)]),
            (corners(0), [4, 0, 1, 0, 1, 1, 7, 5, 8, 3, 7, 3, 4, 1, 1, 1, 1]),
            (corners(1), [3, 0, 1, 0, 1, 2, 3, 2, 3, 1, 1, 1, 1]),
        )

    def test_a_score_without_people_is_not_among_them(self):
        self.asked(
            *told([(0, 0), (1, 1), (0, 0), (0, 1)], [(0, 0), (0, 0), (0, 0), (7, 9)]),
            (corners(0), [3, 0, 1, 0, 1, 1, 2, 1, 1, 1, 1, 1, 1]),
            (corners(1), [2] + whole(0, 0, 1, 1)),
            (count(0, 0, 1, 0), [1]),
            (corners(0), [4, 0, 1, 1, 2, 0, 1, 1, 2, 1, 2, 1, 1, 1, 1, 1, 1]),
        )


class BestRefusals(LineCase):
    def refused(self, before, numbers, answer):
        set_chances = [(chances(0, 3, [1]), [0]), (chances(1, 3, [2]), [0])]
        for call in (best, take):
            self.asked(*before, *set_chances, (call(*numbers), answer), (state(), [1, 1, 3, 2, 3]))

    def test_a_gain_or_a_loss_above_100(self):
        for numbers in ((101, 0), (0, 101), (101, 101), (BIG, 1), (1, BIG)):
            self.refused(told(PLAIN, PLAIN), numbers, [-22])

    def test_they_come_ahead_of_somebody_lacking(self):
        for numbers in ((101, 0), (0, 101)):
            self.refused([(begin(1), [0])], numbers, [-22])
            self.refused(told([(1, 0)], PLAIN), numbers, [-22])

    def test_somebody_is_lacking_in_either_group(self):
        for numbers in ((0, 0), (1, 1), (100, 100)):
            for lacking in ([(1, 0)], [(0, 1)], [(0, 0)]):
                self.refused(told(lacking, PLAIN), numbers, [-33])
                self.refused(told(PLAIN, lacking), numbers, [-33])

    def test_100_is_right(self):
        self.asked(
            *CROSSING,
            (best(100, 100), [0, 1, 5, 3, 5, 240, 1]),
            (best(100, 0), [0] + whole(1, 1, 600)),
            (best(0, 100), [0] + whole(0, 0, 0)),
            (take(100, 100), [0]),
        )


class Best(LineCase):
    def test_at_a_crossing(self):
        self.asked(*CROSSING, (best(1, 1), [0, 1, 5, 3, 5, 12, 5]))
        self.asked(*told([(1, 0), (1, 2)], [(3, 1), (1, 3)]), (best(1, 1), [0, 1, 5, 3, 5, 12, 5]))

    def test_at_a_corner(self):
        self.asked(*BELOW, (best(1, 1), [0, 1, 3, 2, 3, 7, 3]), (best(3, 2), [0, 1, 3, 2, 3, 28, 3]))

    def test_a_gain_of_0(self):
        self.asked(*CROSSING, (best(0, 1), [0] + whole(0, 0, 0)), (best(0, 50), [0] + whole(0, 0, 0)))
        # Nobody who turned out not so need be chosen for these: y is the lesser of both mosts.
        self.asked(
            *told([(3, 0), (1, 3)], [(1, 0), (1, 2)]),
            (best(0, 1), [0, 0, 1, 1, 2, 0, 1]),
            (best(0, 100), [0, 0, 1, 1, 2, 0, 1]),
        )

    def test_a_loss_of_0(self):
        self.asked(*CROSSING, (best(1, 0), [0] + whole(1, 1, 6)), (best(7, 0), [0] + whole(1, 1, 42)))
        # From 1 by 2 on all who turned out so are chosen: no more of the others than that.
        self.asked(*told([(1, 1), (0, 1)], [(2, 1), (0, 2)]), (best(1, 0), [0, 1, 2, 1, 1, 3, 1]))

    def test_both_0(self):
        self.asked(*CROSSING, (best(0, 0), [0] + whole(0, 0, 0)))
        self.asked(*told([(3, 0), (1, 3)], [(1, 0), (1, 2)]), (best(0, 0), [0, 0, 1, 1, 2, 0, 1]))

    def test_a_best_of_nobody(self):
        self.asked(*CROSSING, (best(1, 4), [0] + whole(0, 0, 0)), (best(1, 100), [0] + whole(0, 0, 0)))
        self.asked(*told(PLAIN, PLAIN), (best(1, 2), [0] + whole(0, 0, 0)))

    def test_of_like_ones_the_least_x(self):
        # Up to the crossing 18 of gain and loss for each x alike, behind it 6.
        self.asked(
            *CROSSING,
            (best(1, 3), [0] + whole(0, 0, 0)),
            (best(2, 5), [0, 1, 5, 3, 5, 6, 5]),
            (best(2, 1), [0, 1, 5, 3, 5, 6, 1]),
            (best(3, 1), [0] + whole(1, 1, 12)),
        )
        self.asked(*told(PLAIN, PLAIN), (best(1, 1), [0] + whole(0, 0, 0)), (best(2, 1), [0] + whole(1, 1, 2)))

    def test_people_of_both_groups_count_together(self):
        # 10 turned out so and 2 not so: a loss of 4 is still worth it.
        self.asked(*told([(9, 1)], PLAIN), (best(1, 4), [0] + whole(1, 1, 2)), (best(1, 5), [0] + whole(0, 0, 0)))
        self.asked(*told([(1, 9)], PLAIN), (best(1, 1), [0] + whole(0, 0, 0)), (best(6, 1), [0] + whole(1, 1, 2)))

    def test_all_is_known(self):
        known = [(2, 0), (0, 3)]
        self.asked(
            *told(known, known),
            (best(1, 1), [0] + whole(0, 1, 4)),
            (best(1, 0), [0] + whole(0, 1, 4)),
            (best(0, 0), [0] + whole(0, 1, 0)),
        )

    def test_the_groups_chances_are_neither_asked_nor_changed(self):
        self.asked(
            *CROSSING,
            (chances(0, 2, [1, 2]), [0]),
            (best(1, 1), [0, 1, 5, 3, 5, 12, 5]),
            (state(), [2, 1, 2, 1, 1, 0, 1, 0, 1]),
        )


class Take(LineCase):
    def test_at_a_crossing(self):
        self.asked(
            *CROSSING,
            (take(1, 1), [0]),
            (state(), [2, 4, 5, 0, 1, 1, 1, 1, 5]),
            (point(0), [0, 1, 5, 3, 5]),
            (point(1), [0, 1, 5, 3, 5]),
        )

    def test_below_one_group_s_most(self):
        # In group 0, for x 1 by 3, the most has 7 by 9 and the fewest 1 by 9, and m is 5 by 6.
        self.asked(
            *BELOW,
            (take(1, 1), [0]),
            (state(), [2, 5, 6, 1, 6, 1, 1, 0, 1]),
            (point(0), [0, 1, 3, 2, 3]),
            (point(1), [0, 1, 3, 2, 3]),
        )

    def test_of_nobody_and_of_all(self):
        self.asked(
            *CROSSING,
            (take(1, 0), [0]),
            (state(), [2] + whole(1, 1, 1, 1)),
            (take(1, 100), [0]),
            (state(), [2] + whole(0, 0, 0, 0)),
            (take(0, 0), [0]),
            (state(), [2] + whole(0, 0, 0, 0)),
        )

    def test_a_gain_of_0_where_some_are_sure(self):
        self.asked(
            *told([(3, 0), (1, 3)], [(1, 0), (1, 2)]),
            (take(0, 1), [0]),
            (state(), [2, 2, 3, 0, 1, 1, 1, 0, 1]),
            (point(0), [0, 0, 1, 1, 2]),
            (point(1), [0, 0, 1, 1, 2]),
        )

    def test_a_score_without_people_gets_no_chance(self):
        self.asked(
            *told([(1, 1), (0, 0)], [(0, 0), (1, 1)]),
            (chances(0, 1, [1, 1]), [0]),
            (chances(1, 1, [1, 1]), [0]),
            (take(1, 0), [0]),
            (state(), [2] + whole(1, 0, 0, 1)),
        )

    def test_a_refused_one_changes_nothing(self):
        taken = CROSSING + [(take(1, 1), [0])]
        told_state = [2, 4, 5, 0, 1, 1, 1, 1, 5]
        for call, answer in ((take(101, 0), [-22]), (take(0, 101), [-22]), (take(BIG, BIG), [-22])):
            self.asked(*taken, (call, answer), (state(), told_state))
        for g in (0, 1):
            lacking = [(count(g, 0, 0, 1), [1]), (count(g, 1, 0, 1), [1])]
            self.asked(*taken, *lacking, (take(1, 0), [-33]), (best(1, 0), [-33]), (state(), told_state))


class BelowZero(unittest.TestCase):
    # What is worth less than 0 is never the best, since nobody need be chosen: so it is asked for beside the calls.
    def test_a_fraction_below_0(self):
        self.assertEqual(reduced(-6, 4), (-3, 2))
        self.assertEqual(reduced(0, 4), (0, 1))
        self.assertEqual(minus((1, 6), (2, 3)), (-1, 2))

    def test_a_worth_below_0(self):
        group = Group(1)
        group.so[0] = 1
        group.not_so[0] = 3
        self.assertEqual(worth_of([group, group], 1, 1, (1, 2), (1, 4)), (-5, 2))


def most_y(cells, x):
    return max(y_of_all_ends(cells, x))


def lesser_most(groups, x):
    return min(most_y(cells, x) for cells in groups)


def worth(groups, u, v, x, y):
    so = sum(y for cells in groups for y, n in cells)
    not_so = sum(n for cells in groups for y, n in cells)
    return u * so * y - v * not_so * x


def sums_of_not_so(cells):
    """All x up to which whole scores can be chosen, in whatever order."""
    chosen = itertools.product((0, 1), repeat=len(cells))
    everybody = sum(n for y, n in cells)
    return {Fraction(sum(n * c for (y, n), c in zip(cells, row)), everybody) for row in chosen}


def all_turns(groups):
    """Every x at which the lesser most can turn."""
    xs = sorted(sums_of_not_so(groups[0]) | sums_of_not_so(groups[1]))
    leads = [most_y(groups[0], x) - most_y(groups[1], x) for x in xs]
    turns = list(xs)
    for left, right, lead, next_lead in zip(xs, xs[1:], leads, leads[1:]):
        if lead != next_lead:
            turns.append(left + (right - left) * lead / (lead - next_lead))
    return sorted(x for x in turns if 0 <= x <= 1)


def some_groups():
    sizes = ((0, 0), (3, 0), (0, 2), (1, 1), (1, 4), (5, 2))
    groups = []
    for cells in itertools.product(sizes, repeat=3):
        if sum(y for y, n in cells) > 0 and sum(n for y, n in cells) > 0:
            groups.append(cells)
    # Steps that share nothing with how many there are, so that each group meets many others.
    return [(groups[place], groups[place * 37 % len(groups)]) for place in range(len(groups))]


class AgainstManyPoints(LineCase):
    WORTHS = ((1, 1), (1, 0), (0, 1), (0, 0), (3, 2), (2, 5), (100, 99), (1, 6))

    def best_found(self, groups, u, v):
        found = None
        for x in all_turns(groups):
            y = lesser_most(groups, x)
            if found is None or worth(groups, u, v, x, y) > found[2]:
                found = (x, y, worth(groups, u, v, x, y))
        return found

    def test_the_best_and_the_points_that_are_taken(self):
        for groups in some_groups():
            for u, v in self.WORTHS:
                found = self.best_found(groups, u, v)
                numbers = [number for part in found for number in (part.numerator, part.denominator)]
                with self.subTest(groups=groups, u=u, v=v):
                    self.asked(
                        *told(*groups),
                        (best(u, v), [0] + numbers),
                        (take(u, v), [0]),
                        (point(0), [0] + numbers[:4]),
                        (point(1), [0] + numbers[:4]),
                    )

    def test_nothing_that_both_groups_reach_is_worth_more(self):
        parts = [(a, 6) for a in range(7)] + [(a, 7) for a in range(1, 7)]
        points = list(itertools.product(parts, repeat=2))
        for groups in some_groups()[::3]:
            before = [call for call, answer in told(*groups)]
            start = sum(1 + len(answer) for call, answer in told(*groups))
            reached = []
            for place in range(0, len(points), 20):
                asked = points[place:place + 20]
                given = answers(laid(before + [both(*x, *y) for x, y in asked]))[start + 1::2]
                reached += [(Fraction(*x), Fraction(*y)) for (x, y), can in zip(asked, given) if can == 1]
            self.assertGreaterEqual(len(reached), len(parts))
            for u, v in self.WORTHS:
                given = answers(laid(before + [best(u, v)]))[start + 2:]
                x, y, told_worth = [Fraction(given[place], given[place + 1]) for place in (0, 2, 4)]
                self.assertEqual(told_worth, worth(groups, u, v, x, y))
                for other_x, other_y in reached:
                    other = worth(groups, u, v, other_x, other_y)
                    with self.subTest(groups=groups, u=u, v=v, x=other_x, y=other_y):
                        self.assertLessEqual(other, told_worth)
                        self.assertTrue(other < told_worth or other_x >= x)

    def test_the_best_can_be_reached_in_both(self):
        for groups in some_groups()[::2]:
            before = told(*groups)
            start = sum(1 + len(answer) for call, answer in before)
            for u, v in self.WORTHS:
                given = answers(laid([call for call, answer in before] + [best(u, v)]))[start + 2:start + 6]
                self.asked(*before, (both(*given), [1]), (take(u, v), [0]), (state(), self.reached(before, given)))

    def reached(self, before, numbers):
        """What reach tells of this x and y in one group, then in the other, laid out as state lays it."""
        calls = [call for call, answer in before]
        start = sum(1 + len(answer) for call, answer in before)
        given = [answers(laid(calls + [reach(g, *numbers)]))[start + 1:] for g in (0, 1)]
        return given[0] + given[1][1:]


if __name__ == "__main__":
    unittest.main()
