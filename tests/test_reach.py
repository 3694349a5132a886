"""state, can, reach and both."""

import itertools
import unittest
from fractions import Fraction

from lines import (BIG, LineCase, begin, best, both, can, cell, chances, corners, count, laid, lower, point, reach, state,
                   take, told, upper, y_of_all_ends)
from reachedchances.groups import answers

PLAIN = [(1, 1)]

# In group 0, score 0: nobody turned out so; 1: nobody not so; 2: without people; 3: both. In group 1 all is known.
CORNERS = told([(0, 2), (3, 0), (0, 0), (1, 2)], [(1, 0), (0, 0), (0, 1), (0, 0)])

NOT_PARTS = ((0, 0), (1, 0), (0, 1001), (1001, 1001), (2, 1), (1000, 999), (1001, 1000), (0, BIG), (BIG, 1))
NO_CHANCE = [0, 1]


class State(LineCase):
    def test_after_a_begin(self):
        for k in (1, 2, 3, 4):
            self.asked((begin(k), [0]), (state(), [k] + NO_CHANCE * 2 * k))

    def test_of_one_score(self):
        self.asked(
            (begin(1), [0]),
            (chances(1, 4, [3]), [0]),
            (state(), [1, 0, 1, 3, 4]),
            (chances(0, 1000, [1000]), [0]),
            (state(), [1, 1, 1, 3, 4]),
        )

    def test_of_four_scores(self):
        self.asked(
            (begin(4), [0]),
            (chances(0, 12, [1, 2, 3, 12]), [0]),
            (state(), [4, 1, 12, 1, 6, 1, 4, 1, 1] + NO_CHANCE * 4),
            (chances(1, 1000, [0, 1, 10, 999]), [0]),
            (state(), [4, 1, 12, 1, 6, 1, 4, 1, 1, 0, 1, 1, 1000, 1, 100, 999, 1000]),
            (chances(0, 7, [0, 0, 0, 0]), [0]),
            (state(), [4] + NO_CHANCE * 4 + [0, 1, 1, 1000, 1, 100, 999, 1000]),
        )

    def test_a_begin_that_comes_again(self):
        self.asked(
            *told(PLAIN, PLAIN),
            (reach(0, 1, 2, 1, 2), [1, 1, 2]),
            (chances(1, 3, [1]), [0]),
            (state(), [1, 1, 2, 1, 3]),
            (begin(5), [-22]),
            (state(), [1, 1, 2, 1, 3]),
            (begin(1), [0]),
            (state(), [1] + NO_CHANCE * 2),
            (begin(4), [0]),
            (state(), [4] + NO_CHANCE * 8),
        )

    def test_what_asks_only_changes_no_chances(self):
        told_state = [4, 1, 5, 2, 5, 3, 5, 4, 5, 1, 1, 0, 1, 1, 1, 0, 1]
        self.asked(
            *CORNERS,
            (chances(0, 5, [1, 2, 3, 4]), [0]),
            (chances(1, 5, [5, 0, 5, 0]), [0]),
            (can(0, 1, 4, 1, 2), [1]),
            (both(1, 4, 1, 2), [1]),
            (corners(1), [3, 0, 1, 1, 1, 0, 1, 1, 1, 1, 1, 1, 1]),
            (best(1, 0), [0, 1, 2, 1, 1, 5, 1]),
            (upper(0, 0, 1), [0, 3, 4]),
            (lower(0, 0, 1), [0, 0, 1]),
            (cell(0, 0), [0, 2]),
            (count(0, 2, 9, 9), [18]),
            (count(1, 0, 0, 0), [0]),
            (state(), told_state),
        )


class Refusals(LineCase):
    def refused(self, before, g, x, y, answer):
        """Of can and reach, and of both where it is asked of a group that is there; no chances change."""
        set_chances = [(chances(0, 3, [1]), [0]), (chances(1, 3, [2]), [0])]
        after = [(state(), [1, 1, 3, 2, 3])]
        calls = [can(g, *x, *y), reach(g, *x, *y)] + ([both(*x, *y)] if g < 2 else [])
        for call in calls:
            self.asked(*before, *set_chances, (call, answer), *after)

    def test_no_such_group_comes_first(self):
        for g in (2, BIG):
            for before in (told(PLAIN, PLAIN), [(begin(1), [0])]):
                self.refused(before, g, (1, 2), (1, 2), [-2])
                for wrong in NOT_PARTS:
                    self.refused(before, g, wrong, (1, 2), [-2])
                    self.refused(before, g, (1, 2), wrong, [-2])

    def test_not_a_part_comes_next(self):
        for g in (0, 1):
            for before in (told(PLAIN, PLAIN), [(begin(1), [0])]):
                for wrong in NOT_PARTS:
                    self.refused(before, g, wrong, (1, 2), [-22])
                    self.refused(before, g, (1, 2), wrong, [-22])
                    self.refused(before, g, wrong, wrong, [-22])

    def test_somebody_is_lacking_in_either_group(self):
        for g in (0, 1):
            for lacking in ([(1, 0)], [(0, 1)], [(0, 0)]):
                for x, y in (((1, 2), (1, 2)), ((1, 2), (1, 3)), ((0, 1), (1, 1))):
                    self.refused(told(lacking, PLAIN), g, x, y, [-33])
                    self.refused(told(PLAIN, lacking), g, x, y, [-33])

    def test_what_can_t_be_reached_comes_last(self):
        for g in (0, 1):
            for y in ((0, 1), (499, 1000), (501, 1000), (1, 1)):
                self.asked(
                    *told(PLAIN, PLAIN),
                    (chances(0, 3, [1]), [0]),
                    (chances(1, 3, [2]), [0]),
                    (can(g, 1, 2, *y), [0]),
                    (both(1, 2, *y), [0]),
                    (reach(g, 1, 2, *y), [-34]),
                    (state(), [1, 1, 3, 2, 3]),
                )

    def test_the_greatest_and_the_least_lower_number(self):
        for x in ((0, 1), (1, 1), (0, 1000), (1, 1000), (1000, 1000)):
            part = Fraction(*x)
            self.asked(
                *told(PLAIN, PLAIN),
                (can(0, *x, *x), [1]),
                (both(*x, *x), [1]),
                (reach(1, *x, *x), [1, part.numerator, part.denominator]),
            )


class Can(LineCase):
    def test_at_the_most_s_and_around_it(self):
        # For x 1 by 4 the most's y is 7 by 8; no part by at most 1000 is nearer than these two.
        self.asked(
            *CORNERS,
            (can(0, 1, 4, 7, 8), [1]),
            (can(0, 1, 4, 875, 1000), [1]),
            (can(0, 1, 4, 874, 999), [1]),
            (can(0, 1, 4, 869, 993), [0]),
            (can(0, 1, 4, 1, 1), [0]),
            (reach(0, 1, 4, 869, 993), [-34]),
        )

    def test_at_the_fewest_s_and_around_it(self):
        # For x 3 by 4 the fewest's y is 1 by 8.
        self.asked(
            *CORNERS,
            (can(0, 3, 4, 1, 8), [1]),
            (can(0, 3, 4, 125, 1000), [1]),
            (can(0, 3, 4, 125, 999), [1]),
            (can(0, 3, 4, 124, 993), [0]),
            (can(0, 3, 4, 0, 1), [0]),
            (reach(0, 3, 4, 124, 993), [-34]),
        )

    def test_x_of_0_and_of_1(self):
        self.asked(
            *CORNERS,
            (can(0, 0, 1, 0, 1), [1]),
            (can(0, 0, 9, 3, 4), [1]),
            (can(0, 0, 1, 751, 1000), [0]),
            (can(0, 0, 1, 1, 1), [0]),
            (can(0, 1, 1, 0, 1), [0]),
            (can(0, 1, 1, 249, 1000), [0]),
            (can(0, 9, 9, 1, 4), [1]),
            (can(0, 1, 1, 1, 1), [1]),
        )

    def test_all_is_reached_where_all_is_known(self):
        pairs = [(can(1, *x, *y), [1]) for x in ((0, 1), (1, 3), (1, 1)) for y in ((0, 1), (2, 7), (1, 1))]
        self.asked(*CORNERS, *pairs)

    def test_x_and_x(self):
        for cells in itertools.product(((0, 1), (1, 0), (3, 2), (2, 2), (0, 0)), repeat=2):
            pairs = [(can(0, a, 7, a, 7), [1]) for a in range(8)] + [(both(a, 7, a, 7), [1]) for a in range(8)]
            self.asked(*told([(5, 7)] + list(cells), list(cells) + [(99, 1)]), *pairs)

    def test_scores_that_tell_nothing(self):
        self.asked(
            *told([(1, 2), (2, 4)], [(5, 5), (0, 0)]),
            (can(0, 1, 3, 1, 3), [1]),
            (can(0, 333, 1000, 333, 1000), [1]),
            (can(0, 1, 3, 333, 1000), [0]),
            (can(0, 1, 3, 334, 1000), [0]),
            (can(1, 999, 1000, 1, 1), [0]),
        )


class Both(LineCase):
    def test_what_only_one_group_can_reach(self):
        # For x 1 by 4 group 0 can reach all up to 7 by 8, for x 3 by 4 all from 1 by 8; group 1 all.
        self.asked(
            *CORNERS,
            (can(0, 1, 4, 1, 1), [0]), (can(1, 1, 4, 1, 1), [1]), (both(1, 4, 1, 1), [0]),
            (can(0, 3, 4, 0, 1), [0]), (can(1, 3, 4, 0, 1), [1]), (both(3, 4, 0, 1), [0]),
            (both(1, 4, 7, 8), [1]), (both(1, 4, 874, 999), [1]), (both(1, 4, 869, 993), [0]),
            (both(3, 4, 1, 8), [1]), (both(3, 4, 125, 999), [1]), (both(3, 4, 124, 993), [0]),
        )

    def test_what_only_the_other_group_can_reach(self):
        self.asked(
            *told([(1, 0), (0, 1)], [(1, 1), (0, 0)]),
            (can(0, 1, 2, 1, 3), [1]), (can(1, 1, 2, 1, 3), [0]), (both(1, 2, 1, 3), [0]),
            (can(0, 1, 2, 1, 2), [1]), (can(1, 1, 2, 1, 2), [1]), (both(1, 2, 1, 2), [1]),
        )

    def test_each_group_s_own_bound(self):
        # The mosts cross at 1 by 5: below it group 0's is the lesser, above it group 1's.
        self.asked(
            *told([(3, 1), (1, 3)], [(1, 0), (1, 2)]),
            (both(1, 10, 3, 10), [1]), (both(1, 10, 301, 1000), [0]), (can(1, 1, 10, 301, 1000), [1]),
            (both(1, 5, 3, 5), [1]), (both(1, 5, 601, 1000), [0]),
            (both(1, 4, 5, 8), [1]), (both(1, 4, 626, 1000), [0]), (can(0, 1, 4, 626, 1000), [1]),
        )

    def test_nothing_both_groups_reach(self):
        self.asked(
            *told([(1, 0), (0, 1)], [(1, 0), (0, 1)]),
            (both(0, 1, 1, 1), [1]), (both(1, 1, 0, 1), [1]),
            (count(1, 0, 1, 1), [2]),
            (both(0, 1, 1, 1), [0]), (both(1, 1, 0, 1), [0]), (both(0, 1, 0, 1), [1]), (both(1, 1, 1, 1), [1]),
        )


class Reach(LineCase):
    def test_between_the_fewest_and_the_most(self):
        # For x 1 by 4: the most's chances are 0 1 0 1/2 (7 by 8), the fewest's 1/2 0 0 0 (0), and m is 4 by 7.
        self.asked(
            *CORNERS,
            (chances(1, 4, [1, 2, 3, 4]), [0]),
            (reach(0, 1, 4, 1, 2), [4, 3, 14, 4, 7, 0, 1, 2, 7]),
            (point(0), [0, 1, 4, 1, 2]),
            (state(), [4, 3, 14, 4, 7, 0, 1, 2, 7, 1, 4, 1, 2, 3, 4, 1, 1]),
        )

    def test_of_the_other_group(self):
        self.asked(
            *CORNERS,
            (chances(0, 4, [1, 2, 3, 4]), [0]),
            (reach(1, 1, 4, 2, 3), [4, 2, 3, 0, 1, 1, 4, 0, 1]),
            (point(1), [0, 1, 4, 2, 3]),
            (state(), [4, 1, 4, 1, 2, 3, 4, 1, 1, 2, 3, 0, 1, 1, 4, 0, 1]),
        )

    def test_the_most_and_the_fewest_themselves(self):
        self.asked(
            *CORNERS,
            (reach(0, 1, 4, 7, 8), [4, 0, 1, 1, 1, 0, 1, 1, 2]),
            (point(0), [0, 1, 4, 7, 8]),
            (reach(0, 3, 4, 1, 8), [4, 1, 1, 0, 1, 0, 1, 1, 2]),
            (point(0), [0, 3, 4, 1, 8]),
        )

    def test_x_of_0(self):
        self.asked(
            *CORNERS,
            (reach(0, 0, 1, 0, 1), [4] + NO_CHANCE * 4),
            (reach(0, 0, 1, 3, 4), [4, 0, 1, 1, 1, 0, 1, 0, 1]),
            (reach(0, 0, 1, 1, 4), [4, 0, 1, 1, 3, 0, 1, 0, 1]),
            (point(0), [0, 0, 1, 1, 4]),
            (reach(1, 0, 1, 1, 1), [4, 1, 1, 0, 1, 0, 1, 0, 1]),
            (point(1), [0, 0, 1, 1, 1]),
        )

    def test_x_of_1(self):
        self.asked(
            *CORNERS,
            (reach(0, 1, 1, 1, 1), [4, 1, 1, 1, 1, 0, 1, 1, 1]),
            (reach(0, 1, 1, 1, 4), [4, 1, 1, 0, 1, 0, 1, 1, 1]),
            (reach(0, 1, 1, 1, 2), [4, 1, 1, 1, 3, 0, 1, 1, 1]),
            (point(0), [0, 1, 1, 1, 2]),
            (reach(1, 1, 1, 0, 1), [4, 0, 1, 0, 1, 1, 1, 0, 1]),
            (point(1), [0, 1, 1, 0, 1]),
        )

    def test_the_most_and_the_fewest_alike(self):
        # Then m is 0, and the chances are the fewest's: of like scores the lesser ones first.
        self.asked(
            *told([(1, 2), (2, 4), (0, 0)], [(1, 1), (1, 1), (1, 1)]),
            (reach(0, 1, 2, 1, 2), [3, 1, 1, 1, 4, 0, 1]),
            (point(0), [0, 1, 2, 1, 2]),
            (reach(0, 1, 6, 1, 6), [3, 1, 2, 0, 1, 0, 1]),
            (reach(0, 0, 1, 0, 1), [3] + NO_CHANCE * 3),
            (reach(1, 1, 1, 1, 1), [3, 1, 1, 1, 1, 1, 1]),
            (reach(1, 1, 2, 1, 2), [3, 1, 1, 1, 2, 0, 1]),
            (state(), [3] + NO_CHANCE * 3 + [1, 1, 1, 2, 0, 1]),
        )

    def test_like_scores_within_the_order(self):
        # In order 1, 0, 2, and from the other end 0, 2, 1; for x 3 by 7 the most has 6 by 8, the fewest 3 by 16.
        self.asked(
            *told([(1, 2), (5, 1), (2, 4)], [(1, 1)] * 3),
            (reach(0, 3, 7, 3, 4), [3, 1, 1, 1, 1, 0, 1]),
            (reach(0, 3, 7, 3, 16), [3, 1, 1, 0, 1, 1, 4]),
            (reach(0, 3, 7, 15, 32), [3, 1, 1, 1, 2, 1, 8]),
            (point(0), [0, 3, 7, 15, 32]),
        )

    def test_a_score_without_people_gets_no_chance(self):
        self.asked(
            *told([(0, 0), (1, 1)], [(1, 1), (0, 0)]),
            (chances(0, 1, [1, 1]), [0]),
            (reach(0, 1, 1, 1, 1), [2, 0, 1, 1, 1]),
            (reach(1, 1, 3, 1, 3), [2, 1, 3, 0, 1]),
        )

    def test_parts_with_something_in_common(self):
        self.asked(
            *CORNERS,
            (reach(0, 250, 1000, 500, 1000), [4, 3, 14, 4, 7, 0, 1, 2, 7]),
            (reach(0, 0, 1000, 750, 1000), [4, 0, 1, 1, 1, 0, 1, 0, 1]),
        )

    def test_again_and_after_a_count(self):
        self.asked(
            *told([(3, 1), (1, 3)], [(1, 1), (0, 0)]),
            (reach(0, 1, 2, 1, 2), [2, 1, 2, 1, 2]),
            (reach(0, 1, 2, 1, 2), [2, 1, 2, 1, 2]),
            (count(0, 0, 1, 1), [2]),
            (state(), [2, 1, 2, 1, 2, 0, 1, 0, 1]),
            (reach(0, 1, 2, 1, 2), [2, 1, 2, 1, 2]),
            (reach(0, 1, 4, 1, 2), [2, 1, 1, 0, 1]),
            (point(0), [0, 1, 4, 1, 2]),
        )

    def test_a_refused_one_changes_nothing(self):
        before = CORNERS + [(reach(0, 1, 4, 1, 2), [4, 3, 14, 4, 7, 0, 1, 2, 7]), (take(0, 0), [0])]
        before += [(reach(1, 1, 4, 2, 3), [4, 2, 3, 0, 1, 1, 4, 0, 1])]
        told_state = [4, 0, 1, 1, 1, 0, 1, 0, 1, 2, 3, 0, 1, 1, 4, 0, 1]
        for call, answer in (
            (reach(2, 1, 4, 1, 2), [-2]), (reach(0, 1, 4, 2, 1), [-22]), (reach(1, 1, 0, 1, 1), [-22]),
            (reach(0, 1, 4, 1, 1), [-34]), (reach(0, 3, 4, 0, 1), [-34]),
        ):
            self.asked(*before, (call, answer), (state(), told_state), (point(1), [0, 1, 4, 2, 3]))
        self.asked(*before, (count(1, 0, 0, 1), [1]), (reach(0, 1, 4, 1, 2), [-33]), (state(), told_state))


class AgainstAllEnds(LineCase):
    SIZES = ((0, 0), (2, 0), (0, 1), (1, 1), (1, 3), (4, 3), (2, 2))
    PARTS = ((0, 1), (1, 7), (1, 3), (1, 2), (4, 5), (1, 1))

    def groups(self):
        for cells in itertools.product(self.SIZES, repeat=3):
            if sum(y for y, n in cells) > 0 and sum(n for y, n in cells) > 0:
                yield cells

    def test_just_what_chances_make_can_be_reached(self):
        for cells in self.groups():
            for x in self.PARTS:
                ends = y_of_all_ends(cells, Fraction(*x))
                pairs = [(can(0, *x, *y), [int(min(ends) <= Fraction(*y) <= max(ends))]) for y in self.PARTS]
                self.asked(*told(cells, [(1, 1)] * 3), *pairs)

    def test_what_is_reached_is_what_was_asked(self):
        for cells in self.groups():
            for x, y in itertools.product(self.PARTS, repeat=2):
                before = told(cells, [(1, 1)] * 3)
                given = answers(laid([call for call, answer in before] + [reach(0, *x, *y), point(0), state()]))
                given = given[sum(1 + len(answer) for call, answer in before):]
                ends = y_of_all_ends(cells, Fraction(*x))
                if not min(ends) <= Fraction(*y) <= max(ends):
                    self.assertEqual(given, [1, -34, 5, 0, 0, 1, 0, 1, 13, 3] + NO_CHANCE * 6)
                    continue
                reached = given[2:8]
                self.assertEqual(given, [7, 3] + reached + [5, 0, *x, *y] + [13, 3] + reached + NO_CHANCE * 3)
                for chance in (Fraction(reached[place], reached[place + 1]) for place in (0, 2, 4)):
                    self.assertTrue(0 <= chance <= 1)

    def test_what_chances_make_can_be_reached_again(self):
        for cells in (((4, 3), (0, 1), (1, 3)), ((2, 0), (1, 3), (0, 1)), ((1, 1), (2, 2), (4, 3))):
            before = told([(1, 1)] * 3, cells)
            start = sum(1 + len(answer) for call, answer in before)
            for of_each in itertools.product(range(4), repeat=3):
                made = (chances(1, 3, list(of_each)), [0])
                given = answers(laid([call for call, answer in before + [made]] + [point(1)]))[start + 2:]
                x_and_y = given[2:]
                self.asked(*before, made, (point(1), [0] + x_and_y), (can(1, *x_and_y), [1]))


if __name__ == "__main__":
    unittest.main()
