"""chances and point."""

import unittest

from lines import BIG, LineCase, begin, chances, count, point, told

# Of the first four turned out so and four not so, of the second three and one.
TWO_SCORES = told([(1, 2), (3, 2)], [(1, 1), (2, 0)])


class Chances(LineCase):
    def test_taken(self):
        self.asked(
            *TWO_SCORES,
            (chances(0, 3, [1, 2]), [0]),
            (chances(1, 4, [2, 3]), [0]),
            (point(0), [0, 1, 2, 7, 12]),
            (point(1), [0, 1, 2, 2, 3]),
        )

    def test_taken_when_nobody_is_there(self):
        self.asked((begin(3), [0]), (chances(0, 1, [0, 1, 0]), [0]), (chances(1, 1000, [0, 1000, 999]), [0]))

    def test_stay_when_counts_change(self):
        self.asked(
            *TWO_SCORES,
            (chances(0, 2, [1, 2]), [0]),
            (count(0, 0, 3, 2), [5]),
            (point(0), [0, 3, 4, 3, 4]),
        )

    def test_no_such_group(self):
        for g in (2, BIG):
            self.asked((begin(2), [0]), (chances(g, 1, [0, 1]), [-2]))

    def test_no_such_group_comes_first(self):
        self.asked(
            (begin(2), [0]),
            (chances(2, 0, [0, 0]), [-2]),
            (chances(2, 1, [0, 2]), [-2]),
            (chances(2, 1, []), [-2]),
            (chances(2, 1001, [0] * 255), [-2]),
        )

    def test_not_a_number_for_each_score(self):
        for of_each in ([], [0], [0, 0, 0], [0] * 4, [0] * 255):
            self.asked((begin(2), [0]), (chances(0, 1, of_each), [-22]), (chances(1, 1, [0, 1]), [0]))

    def test_a_number_for_each_of_one_to_four_scores(self):
        for k in (1, 2, 3, 4):
            self.asked(
                (begin(k), [0]),
                (chances(0, 5, [5] * k), [0]),
                (chances(0, 5, [5] * (k - 1)), [-22]),
                (chances(0, 5, [5] * (k + 1)), [-22]),
            )

    def test_a_number_above_what_they_are_by(self):
        self.asked(
            (begin(2), [0]),
            (chances(0, 7, [7, 7]), [0]),
            (chances(0, 7, [8, 7]), [-22]),
            (chances(0, 7, [7, 8]), [-22]),
            (chances(0, 1000, [0, 1001]), [-22]),
            (chances(0, 1, [BIG, 0]), [-22]),
        )

    def test_what_they_are_by(self):
        self.asked(
            (begin(2), [0]),
            (chances(0, 0, [0, 0]), [-22]),
            (chances(0, 0, []), [-22]),
            (chances(0, 1, [0, 1]), [0]),
            (chances(0, 1000, [1, 1000]), [0]),
            (chances(0, 1001, [1, 1000]), [-22]),
            (chances(0, BIG, [0, 0]), [-22]),
        )

    def test_refused_ones_change_nothing(self):
        refused = ((2, 3, [0, 0]), (0, 3, [0]), (0, 3, [0, 0, 0]), (0, 3, []), (0, 3, [0, 4]), (0, 3, [4, 0]),
                   (0, 0, [0, 0]), (0, 1001, [0, 0]), (1, 3, [0, 4]), (0, 3, [3] * 255))
        for g, b, of_each in refused:
            self.asked(
                *TWO_SCORES,
                (chances(0, 3, [1, 2]), [0]),
                (chances(1, 4, [2, 3]), [0]),
                (chances(g, b, of_each), [-2] if g == 2 else [-22]),
                (point(0), [0, 1, 2, 7, 12]),
                (point(1), [0, 1, 2, 2, 3]),
            )


class Point(LineCase):
    def test_chances_are_0_at_first(self):
        self.asked(*TWO_SCORES, (point(0), [0, 0, 1, 0, 1]), (point(1), [0, 0, 1, 0, 1]))

    def test_chances_of_0_and_of_1(self):
        self.asked(
            *TWO_SCORES,
            (chances(0, 1, [1, 1]), [0]),
            (point(0), [0, 1, 1, 1, 1]),
            (chances(0, 9, [9, 0]), [0]),
            (point(0), [0, 1, 2, 1, 4]),
            (chances(0, 9, [0, 9]), [0]),
            (point(0), [0, 1, 2, 3, 4]),
            (chances(0, 9, [0, 0]), [0]),
            (point(0), [0, 0, 1, 0, 1]),
            (point(1), [0, 0, 1, 0, 1]),
        )

    def test_one_part_is_0_and_the_other_is_not(self):
        self.asked(
            *told([(0, 3), (2, 0)], [(0, 3), (2, 0)]),
            (chances(0, 6, [0, 4]), [0]),
            (chances(1, 6, [4, 0]), [0]),
            (point(0), [0, 0, 1, 2, 3]),
            (point(1), [0, 2, 3, 0, 1]),
        )

    def test_a_score_without_people_counts_nothing(self):
        self.asked(*told([(1, 1), (0, 0)], [(1, 1), (0, 0)]), (chances(0, 2, [1, 2]), [0]), (point(0), [0, 1, 2, 1, 2]))

    def test_large_fractions(self):
        self.asked(
            *told([(99, 98), (97, 1)], [(1, 1), (0, 0)]),
            (chances(0, 997, [996, 1]), [0]),
            (point(0), [0, 97609, 98703, 98701, 195412]),
        )

    def test_no_such_group(self):
        for g in (2, BIG):
            self.asked(*TWO_SCORES, (point(g), [-2]))

    def test_no_such_group_comes_first(self):
        self.asked((begin(1), [0]), (point(2), [-2]), (point(0), [-33]), (point(1), [-33]))

    def test_somebody_is_lacking_in_either_group(self):
        full = [(1, 0), (0, 1)]
        for lacking in ([(1, 0), (2, 0)], [(0, 1), (0, 2)], [(0, 0), (0, 0)]):
            self.asked(*told(lacking, full), (point(0), [-33]), (point(1), [-33]))
            self.asked(*told(full, lacking), (point(0), [-33]), (point(1), [-33]))
        self.asked(*told(full, full), (point(0), [0, 0, 1, 0, 1]), (point(1), [0, 0, 1, 0, 1]))

    def test_somebody_is_lacking_after_a_count(self):
        self.asked(
            *told([(1, 1)], [(1, 1)]),
            (point(0), [0, 0, 1, 0, 1]),
            (count(1, 0, 0, 1), [1]),
            (point(0), [-33]),
            (count(1, 0, 1, 1), [2]),
            (point(0), [0, 0, 1, 0, 1]),
        )


if __name__ == "__main__":
    unittest.main()
