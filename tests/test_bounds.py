"""upper and lower, and the orders and chances behind them."""

import itertools
import unittest
from fractions import Fraction

from lines import BIG, LineCase, begin, chances, count, laid, lower, point, told, upper, y_of_all_ends
from reachedchances.choosing import fewest_chances, most_chances, scores_from_other_end, scores_in_order
from reachedchances.groups import answers
from reachedchances.people import Group

PLAIN = [(1, 1)]


def group_of(cells):
    group = Group(len(cells))
    group.so = [y for y, n in cells]
    group.not_so = [n for y, n in cells]
    return group


class Refusals(LineCase):
    def refused(self, before, numbers, answer):
        for call in (upper, lower):
            self.asked(*before, (call(*numbers), answer))

    def test_no_such_group(self):
        for g in (2, BIG):
            self.refused(told(PLAIN, PLAIN), (g, 1, 2), [-2])

    def test_no_such_group_comes_first(self):
        for part in ((1, 0), (2, 1), (1, 1001), (1, 2)):
            self.refused(told(PLAIN, PLAIN), (2,) + part, [-2])
            self.refused([(begin(1), [0])], (2,) + part, [-2])

    def test_not_a_part(self):
        for part in ((0, 0), (1, 0), (0, 1001), (1001, 1001), (2, 1), (1000, 999), (1001, 1000), (0, BIG), (BIG, 1)):
            for g in (0, 1):
                self.refused(told(PLAIN, PLAIN), (g,) + part, [-22])

    def test_not_a_part_comes_ahead_of_somebody_lacking(self):
        for part in ((0, 0), (0, 1001), (2, 1)):
            self.refused([(begin(1), [0])], (0,) + part, [-22])

    def test_somebody_is_lacking_in_either_group(self):
        for lacking in ([(1, 0)], [(0, 1)], [(0, 0)]):
            for g in (0, 1):
                self.refused(told(lacking, PLAIN), (g, 1, 2), [-33])
                self.refused(told(PLAIN, lacking), (g, 1, 2), [-33])

    def test_the_greatest_and_the_least_lower_number(self):
        for call in (upper, lower):
            self.asked(
                *told(PLAIN, PLAIN),
                (call(0, 0, 1), [0, 0, 1]),
                (call(0, 1, 1), [0, 1, 1]),
                (call(0, 0, 1000), [0, 0, 1]),
                (call(0, 1, 1000), [0, 1, 1000]),
                (call(0, 1000, 1000), [0, 1, 1]),
            )


class Bounds(LineCase):
    # Score 0: nobody turned out so; 1: nobody not so; 2: without people; 3: both.
    CORNERS = told([(0, 2), (3, 0), (0, 0), (1, 2)], [(1, 0), (0, 0), (0, 1), (0, 0)])

    def test_the_most(self):
        self.asked(
            *self.CORNERS,
            (upper(0, 0, 1), [0, 3, 4]),
            (upper(0, 1, 8), [0, 13, 16]),
            (upper(0, 1, 4), [0, 7, 8]),
            (upper(0, 1, 2), [0, 1, 1]),
            (upper(0, 3, 4), [0, 1, 1]),
            (upper(0, 1, 1), [0, 1, 1]),
        )

    def test_the_fewest(self):
        self.asked(
            *self.CORNERS,
            (lower(0, 0, 1), [0, 0, 1]),
            (lower(0, 1, 4), [0, 0, 1]),
            (lower(0, 1, 2), [0, 0, 1]),
            (lower(0, 3, 4), [0, 1, 8]),
            (lower(0, 7, 8), [0, 3, 16]),
            (lower(0, 1, 1), [0, 1, 4]),
        )

    def test_each_group_has_its_own(self):
        self.asked(
            *self.CORNERS,
            (upper(1, 0, 1), [0, 1, 1]),
            (upper(1, 1, 2), [0, 1, 1]),
            (lower(1, 1, 2), [0, 0, 1]),
            (lower(1, 1, 1), [0, 0, 1]),
            (upper(0, 0, 1), [0, 3, 4]),
        )

    def test_score_by_score(self):
        # In order: score 2 (4 by 1), 0 (3 by 2), 3 (1 by 2), 1 (2 by 5).
        self.asked(
            *told([(3, 2), (2, 5), (4, 1), (1, 2)], [(1, 1)] * 4),
            (upper(0, 0, 10), [0, 0, 1]),
            (upper(0, 1, 20), [0, 1, 5]),
            (upper(0, 1, 10), [0, 2, 5]),
            (upper(0, 2, 10), [0, 11, 20]),
            (upper(0, 3, 10), [0, 7, 10]),
            (upper(0, 4, 10), [0, 3, 4]),
            (upper(0, 5, 10), [0, 4, 5]),
            (upper(0, 6, 10), [0, 21, 25]),
            (upper(0, 999, 1000), [0, 2499, 2500]),
            (upper(0, 10, 10), [0, 1, 1]),
            (lower(0, 0, 10), [0, 0, 1]),
            (lower(0, 1, 10), [0, 1, 25]),
            (lower(0, 5, 10), [0, 1, 5]),
            (lower(0, 6, 10), [0, 1, 4]),
            (lower(0, 7, 10), [0, 3, 10]),
            (lower(0, 8, 10), [0, 9, 20]),
            (lower(0, 9, 10), [0, 3, 5]),
            (lower(0, 19, 20), [0, 4, 5]),
            (lower(0, 10, 10), [0, 1, 1]),
        )

    def test_like_scores(self):
        # Scores 0 and 2 are like, and score 1 is ahead of them.
        self.asked(
            *told([(1, 2), (5, 1), (2, 4)], PLAIN + [(0, 0)] * 2),
            (upper(0, 1, 7), [0, 5, 8]),
            (upper(0, 2, 7), [0, 11, 16]),
            (upper(0, 3, 7), [0, 3, 4]),
            (upper(0, 5, 7), [0, 7, 8]),
            (lower(0, 1, 7), [0, 1, 16]),
            (lower(0, 2, 7), [0, 1, 8]),
            (lower(0, 4, 7), [0, 1, 4]),
            (lower(0, 6, 7), [0, 3, 8]),
        )

    def test_scores_that_tell_nothing(self):
        for cells in ([(1, 1)], [(5, 3)], [(1, 2), (2, 4)], [(3, 3), (0, 0), (2, 2), (7, 7)]):
            others = [(1, 1)] * len(cells)
            for a, b, told_part in ((0, 7, [0, 1]), (2, 6, [1, 3]), (5, 8, [5, 8]), (999, 1000, [999, 1000]), (4, 4, [1, 1])):
                self.asked(*told(cells, others), (upper(0, a, b), [0] + told_part), (lower(0, a, b), [0] + told_part))

    def test_nobody_of_either_kind_shares_a_score(self):
        self.asked(
            *told([(0, 3), (2, 0)], [(1, 1), (0, 0)]),
            (upper(0, 0, 1), [0, 1, 1]),
            (upper(0, 1, 3), [0, 1, 1]),
            (upper(0, 1, 1), [0, 1, 1]),
            (lower(0, 0, 1), [0, 0, 1]),
            (lower(0, 1, 3), [0, 0, 1]),
            (lower(0, 1, 1), [0, 0, 1]),
        )

    def test_close_ratios(self):
        # 98 by 99 is ahead of 97 by 98 by the least that there is.
        self.asked(
            *told([(97, 98), (98, 99)], [(1, 1), (0, 0)]),
            (upper(0, 1, 197), [0, 98, 19305]),
            (lower(0, 1, 197), [0, 97, 19110]),
        )

    def test_the_group_s_chances_are_neither_asked_nor_changed(self):
        self.asked(
            *told([(1, 2), (3, 2)], [(1, 1), (2, 0)]),
            (chances(0, 3, [1, 2]), [0]),
            (upper(0, 1, 4), [0, 3, 8]),
            (lower(0, 1, 4), [0, 1, 8]),
            (point(0), [0, 1, 2, 7, 12]),
            (point(1), [0, 0, 1, 0, 1]),
        )

    def test_a_count_told_anew(self):
        self.asked(
            *told([(1, 2), (3, 2)], [(1, 1), (2, 0)]),
            (upper(0, 1, 2), [0, 3, 4]),
            (count(0, 1, 1, 2), [3]),
            (upper(0, 1, 2), [0, 1, 2]),
        )


class Orders(unittest.TestCase):
    def test_the_most_first(self):
        self.assertEqual(scores_in_order(group_of([(3, 2), (2, 5), (4, 1), (1, 2)])), [2, 0, 3, 1])
        self.assertEqual(scores_in_order(group_of([(0, 2), (3, 0), (0, 0), (1, 2)])), [1, 3, 0])

    def test_the_fewest_first_without_those_of_nobody_not_so(self):
        self.assertEqual(scores_from_other_end(group_of([(3, 2), (2, 5), (4, 1), (1, 2)])), [1, 3, 0, 2])
        self.assertEqual(scores_from_other_end(group_of([(0, 2), (3, 0), (0, 0), (1, 2)])), [0, 3])

    def test_of_like_ones_the_lesser(self):
        self.assertEqual(scores_in_order(group_of([(1, 2), (5, 1), (2, 4), (10, 2)])), [1, 3, 0, 2])
        self.assertEqual(scores_from_other_end(group_of([(1, 2), (5, 1), (2, 4), (10, 2)])), [0, 2, 1, 3])
        self.assertEqual(scores_in_order(group_of([(9, 0), (0, 5), (1, 0), (0, 1)])), [0, 2, 1, 3])
        self.assertEqual(scores_from_other_end(group_of([(9, 0), (0, 5), (1, 0), (0, 1)])), [1, 3])

    def test_chances_of_like_ones(self):
        like = group_of([(1, 2), (2, 4), (0, 0)])
        self.assertEqual(most_chances(like, (1, 2)), [(1, 1), (1, 4), (0, 1)])
        self.assertEqual(fewest_chances(like, (1, 2)), [(1, 1), (1, 4), (0, 1)])

    def test_chances_of_scores_with_nobody_not_so(self):
        sure = group_of([(0, 2), (3, 0), (0, 0), (1, 2)])
        self.assertEqual(most_chances(sure, (0, 1)), [(0, 1), (1, 1), (0, 1), (0, 1)])
        self.assertEqual(fewest_chances(sure, (1, 1)), [(1, 1), (0, 1), (0, 1), (1, 1)])


class AgainstAllEnds(unittest.TestCase):
    def test_nothing_is_above_the_most_or_below_the_fewest(self):
        sizes = ((0, 0), (2, 0), (0, 1), (1, 1), (1, 3), (4, 3), (2, 2))
        parts = ((0, 1), (1, 7), (1, 3), (1, 2), (4, 5), (1, 1))
        for cells in itertools.product(sizes, repeat=3):
            if sum(y for y, n in cells) == 0 or sum(n for y, n in cells) == 0:
                continue
            before = [call for call, answer in told([(1, 1)] * 3, cells)]
            asked = [call for a, b in parts for call in (upper(1, a, b), lower(1, a, b))]
            expected = [number for call, answer in told([(1, 1)] * 3, cells) for number in [len(answer)] + answer]
            for a, b in parts:
                reached = y_of_all_ends(cells, Fraction(a, b))
                for y in (max(reached), min(reached)):
                    expected += [3, 0, y.numerator, y.denominator]
            with self.subTest(cells=cells):
                self.assertEqual(answers(laid(before + asked)), expected)


if __name__ == "__main__":
    unittest.main()
