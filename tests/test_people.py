"""begin, count, cell, people, and what is answered before a begin."""

import unittest

from lines import (BIG, LineCase, begin, best, both, can, cell, chances, corners, count, lower, people, point, reach,
                   state, take, upper)

EVERY_OTHER = (
    count(0, 0, 1, 1),
    cell(0, 0),
    people(0),
    chances(0, 1, [1]),
    point(0),
    upper(0, 1, 2),
    lower(0, 1, 2),
    can(0, 1, 2, 1, 2),
    reach(0, 1, 2, 1, 2),
    both(1, 2, 1, 2),
    corners(0),
    best(1, 1),
    take(1, 1),
    state(),
)

WRONG_EVERY_OTHER = (
    count(2, 9, 100, 100),
    cell(2, 9),
    people(BIG),
    chances(2, 0, []),
    chances(2, 0, [7] * 255),
    point(2),
    upper(2, 2, 1),
    lower(2, 1, 0),
    can(2, 1, 0, 2, 1),
    reach(BIG, 2, 1, 1, 0),
    both(1, 0, 2, 1),
    corners(2),
    best(101, BIG),
    take(BIG, 101),
)


class Begin(LineCase):
    def test_how_many_scores(self):
        for k in (1, 2, 3, 4):
            self.asked((begin(k), [0]), (cell(0, k - 1), [0, 0]), (cell(1, k - 1), [0, 0]), (cell(0, k), [-2]))

    def test_too_few_or_too_many_scores(self):
        for k in (0, 5, BIG):
            self.asked((begin(k), [-22]))

    def test_every_other_call_before_a_begin(self):
        for call in EVERY_OTHER + WRONG_EVERY_OTHER:
            self.asked((call, [-11]))

    def test_every_other_call_after_a_refused_begin(self):
        for k in (0, 5, BIG):
            for call in EVERY_OTHER + WRONG_EVERY_OTHER:
                self.asked((begin(k), [-22]), (call, [-11]))

    def test_a_call_before_a_begin_changes_nothing(self):
        self.asked((count(0, 0, 3, 4), [-11]), (begin(1), [0]), (cell(0, 0), [0, 0]))

    def test_a_row_before_a_begin_is_passed_over(self):
        self.asked((chances(0, 1, [0, 0, 3]), [-11]), (chances(0, 1, []), [-11]), (begin(2), [0]), (people(1), [0, 0]))

    def test_a_begin_that_comes_again(self):
        self.asked(
            (begin(2), [0]),
            (count(0, 0, 3, 4), [7]),
            (count(0, 1, 1, 1), [2]),
            (count(1, 1, 5, 6), [11]),
            (chances(0, 2, [1, 2]), [0]),
            (chances(1, 2, [1, 2]), [0]),
            (state(), [2, 1, 2, 1, 1, 1, 2, 1, 1]),
            (begin(2), [0]),
            (state(), [2, 0, 1, 0, 1, 0, 1, 0, 1]),
            (people(0), [0, 0]),
            (people(1), [0, 0]),
            (cell(0, 0), [0, 0]),
            (cell(1, 1), [0, 0]),
            (count(0, 0, 3, 4), [7]),
            (count(1, 1, 5, 6), [11]),
            (point(0), [0, 0, 1, 0, 1]),
            (point(1), [0, 0, 1, 0, 1]),
        )

    def test_a_begin_that_comes_again_with_other_scores(self):
        self.asked((begin(4), [0]), (cell(0, 3), [0, 0]), (begin(1), [0]), (cell(0, 1), [-2]), (cell(0, 0), [0, 0]))
        self.asked((begin(1), [0]), (cell(0, 3), [-2]), (begin(4), [0]), (cell(0, 3), [0, 0]))

    def test_a_refused_begin_changes_nothing(self):
        for k in (0, 5, BIG):
            self.asked(
                (begin(2), [0]),
                (count(0, 1, 3, 4), [7]),
                (count(1, 0, 1, 2), [3]),
                (chances(0, 2, [0, 1]), [0]),
                (begin(k), [-22]),
                (cell(0, 1), [3, 4]),
                (cell(0, 2), [-2]),
                (people(1), [3, 1]),
                (point(0), [0, 1, 2, 1, 2]),
            )


class Counts(LineCase):
    def test_how_many_that_are(self):
        self.asked(
            (begin(2), [0]),
            (count(0, 0, 3, 4), [7]),
            (count(1, 1, 0, 5), [5]),
            (count(0, 1, 6, 0), [6]),
            (count(1, 0, 0, 0), [0]),
            (cell(0, 0), [3, 4]),
            (cell(0, 1), [6, 0]),
            (cell(1, 0), [0, 0]),
            (cell(1, 1), [0, 5]),
            (people(0), [13, 9]),
            (people(1), [5, 0]),
        )

    def test_no_such_group(self):
        for g in (2, 3, BIG):
            self.asked((begin(4), [0]), (count(g, 0, 1, 1), [-2]), (cell(g, 0), [-2]), (people(g), [-2]))

    def test_no_such_score(self):
        for k in (1, 2, 3, 4):
            for s in (k, k + 1, BIG):
                self.asked((begin(k), [0]), (count(1, s, 1, 1), [-2]), (cell(1, s), [-2]), (people(1), [0, 0]))

    def test_at_most_99(self):
        self.asked(
            (begin(1), [0]),
            (count(0, 0, 99, 99), [198]),
            (cell(0, 0), [99, 99]),
            (people(0), [198, 99]),
            (count(0, 0, 100, 0), [-22]),
            (count(0, 0, 0, 100), [-22]),
            (count(0, 0, 100, 100), [-22]),
            (count(0, 0, BIG, 1), [-22]),
            (count(0, 0, 1, BIG), [-22]),
            (cell(0, 0), [99, 99]),
            (people(0), [198, 99]),
        )

    def test_told_twice(self):
        self.asked(
            (begin(2), [0]),
            (count(1, 1, 3, 4), [7]),
            (count(1, 1, 2, 9), [11]),
            (cell(1, 1), [2, 9]),
            (people(1), [11, 2]),
            (count(1, 1, 0, 0), [0]),
            (cell(1, 1), [0, 0]),
            (people(1), [0, 0]),
        )

    def test_the_refusal_that_comes_first(self):
        self.asked(
            (begin(2), [0]),
            (count(2, 0, 100, 0), [-2]),
            (count(2, 2, 100, 100), [-2]),
            (count(0, 2, 0, 100), [-2]),
            (count(1, BIG, BIG, BIG), [-2]),
        )

    def test_a_refused_count_changes_nothing(self):
        self.asked(
            (begin(2), [0]),
            (count(0, 0, 1, 2), [3]),
            (count(1, 1, 3, 4), [7]),
            (count(0, 0, 100, 5), [-22]),
            (count(0, 0, 5, 100), [-22]),
            (count(1, 2, 5, 5), [-2]),
            (count(2, 1, 5, 5), [-2]),
            (cell(0, 0), [1, 2]),
            (cell(0, 1), [0, 0]),
            (cell(1, 0), [0, 0]),
            (cell(1, 1), [3, 4]),
        )

    def test_the_people_of_all_scores(self):
        self.asked(
            (begin(4), [0]),
            (count(1, 0, 1, 10), [11]),
            (count(1, 1, 2, 20), [22]),
            (count(1, 2, 3, 30), [33]),
            (count(1, 3, 4, 40), [44]),
            (people(1), [110, 10]),
            (people(0), [0, 0]),
        )


if __name__ == "__main__":
    unittest.main()
