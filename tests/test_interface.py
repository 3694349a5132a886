"""How calls are handed in and what is given back, whatever the calls are."""

import contextlib
import inspect
import io
import unittest
from unittest import mock

from lines import (LineCase, begin, best, both, can, cell, chances, corners, count, laid, lower, people, point, reach,
                   state, take, told, upper)
from reachedchances import groups
from reachedchances.groups import answers

ALL_KINDS = laid([call for call, answer in told([(1, 2), (3, 2)], [(1, 1), (2, 0)])] + [
    chances(0, 3, [1, 2]), chances(1, 1, [2] * 255), point(0), upper(0, 1, 4), lower(0, 1, 4), cell(1, 0), people(1),
    begin(0), point(2),
    can(0, 1, 4, 3, 8), both(1, 4, 3, 8), corners(1), best(1, 1), reach(0, 1, 2, 1, 2), state(), take(1, 1), state(),
    reach(0, 0, 1, 1, 1),
])

ALL_KINDS_ANSWERED = [
    1, 0, 1, 3, 1, 5, 1, 2, 1, 2,
    1, 0, 1, -22, 5, 0, 1, 2, 7, 12, 3, 0, 3, 8, 3, 0, 1, 8, 2, 1, 1, 2, 4, 3,
    1, -22, 1, -2,
    1, 1, 1, 1, 13, 3, 0, 1, 2, 3, 0, 1, 2, 3, 1, 1, 1, 1, 7, 0, 1, 2, 3, 4, 11, 4,
    5, 2, 1, 2, 1, 2, 9, 2, 1, 2, 1, 2, 0, 1, 0, 1, 1, 0, 9, 2, 0, 1, 1, 1, 1, 2, 7, 8, 1, -34,
]


class OnlyRead(list):
    """A list that fails when it is changed, were it for a while only."""

    def refuse(self, *given):
        raise AssertionError("what is handed in was changed")

    __setitem__ = __delitem__ = __iadd__ = __imul__ = refuse
    append = extend = insert = pop = remove = reverse = sort = clear = refuse


class Interface(LineCase):
    def test_the_name_and_its_argument(self):
        self.assertEqual(list(inspect.signature(groups.answers).parameters), ["calls"])

    def test_one_call(self):
        self.asked((begin(1), [0]))
        self.asked((begin(0), [-22]))
        self.asked((point(0), [-11]))

    def test_all_kinds_of_calls(self):
        self.assertEqual(answers(list(ALL_KINDS)), ALL_KINDS_ANSWERED)

    def test_forty_calls(self):
        pairs = [(begin(4), [0])]
        for turn in range(12):
            g, s = turn % 2, turn % 4
            pairs += [(count(g, s, turn, 9), [turn + 9]), (cell(g, s), [turn, 9])]
        # Group 0 has scores 0 and 2 left with 8 and 10 who turned out so, group 1 scores 1 and 3 with 9 and 11.
        pairs += [
            (people(0), [36, 18]), (people(1), [38, 20]),
            (chances(0, 2, [1, 0, 2, 0]), [0]), (chances(1, 2, [0, 1, 0, 0]), [0]),
            (point(0), [0, 3, 4, 7, 9]), (point(1), [0, 1, 4, 9, 40]),
            (upper(0, 1, 2), [0, 5, 9]), (lower(0, 1, 2), [0, 4, 9]),
            (upper(1, 1, 2), [0, 11, 20]), (lower(1, 1, 2), [0, 9, 20]),
            (upper(2, 1, 2), [-2]), (lower(0, 2, 1), [-22]),
            (begin(5), [-22]), (begin(2), [0]), (upper(0, 1, 2), [-33]),
        ]
        self.assertEqual(len(pairs), 40)
        self.asked(*pairs)

    def test_forty_calls_that_change_chances_and_people(self):
        told_state = [2, 5, 6, 1, 6, 1, 1, 0, 1]
        pairs = told([(3, 1), (1, 3)], [(1, 0), (1, 2)]) + [
            (state(), [2, 0, 1, 0, 1, 0, 1, 0, 1]),
            (take(1, 1), [0]), (state(), [2, 4, 5, 0, 1, 1, 1, 1, 5]),
            (point(0), [0, 1, 5, 3, 5]), (point(1), [0, 1, 5, 3, 5]),
            (reach(0, 1, 2, 1, 2), [2, 1, 2, 1, 2]), (state(), [2, 1, 2, 1, 2, 1, 1, 1, 5]),
            (chances(1, 10, [3, 7]), [0]), (state(), [2, 1, 2, 1, 2, 3, 10, 7, 10]),
            (count(1, 0, 2, 1), [3]), (state(), [2, 1, 2, 1, 2, 3, 10, 7, 10]), (point(1), [0, 17, 30, 13, 30]),
            (best(1, 1), [0, 1, 3, 2, 3, 7, 3]), (both(1, 3, 2, 3), [1]), (can(1, 1, 3, 3, 4), [0]),
            (reach(1, 1, 3, 3, 4), [-34]), (state(), [2, 1, 2, 1, 2, 3, 10, 7, 10]),
            (take(101, 1), [-22]), (take(1, 1), [0]), (state(), told_state),
            (corners(1), [3, 0, 1, 0, 1, 1, 3, 2, 3, 1, 1, 1, 1]),
            (upper(0, 1, 3), [0, 7, 9]), (lower(0, 1, 3), [0, 1, 9]),
            (count(0, 0, 0, 1), [1]), (count(0, 1, 0, 3), [3]),
            (reach(1, 1, 3, 2, 3), [-33]), (take(1, 1), [-33]), (state(), told_state),
            (people(0), [4, 0]), (cell(1, 0), [2, 1]), (chances(0, 3, [4, 0]), [-22]),
            (count(0, 0, 3, 1), [4]), (point(0), [0, 1, 3, 5, 6]),
            (begin(0), [-22]), (state(), told_state),
        ]
        self.assertEqual(len(pairs), 40)
        self.asked(*pairs)
        calls = laid([call for call, answer in pairs])
        handed_in = list(calls)
        self.assertEqual(answers(handed_in), answers(handed_in))
        self.assertEqual(handed_in, calls)
        self.assertEqual(answers(OnlyRead(calls)), answers(calls))

    def test_forty_calls_with_the_longest_rows(self):
        self.asked((begin(4), [0]), *[(chances(0, 1, [1] * 255), [-22])] * 39)

    def test_numbers_and_lists_are_python_s_own(self):
        given = answers(list(ALL_KINDS))
        self.assertIs(type(given), list)
        self.assertEqual({type(number) for number in given}, {int})

    def test_what_is_handed_in_is_not_changed(self):
        handed_in = list(ALL_KINDS)
        answers(handed_in)
        self.assertEqual(handed_in, ALL_KINDS)
        self.assertEqual(answers(OnlyRead(ALL_KINDS)), ALL_KINDS_ANSWERED)

    def test_what_is_given_back_is_new(self):
        handed_in = list(ALL_KINDS)
        first = answers(handed_in)
        first.clear()
        self.assertEqual(answers(handed_in), ALL_KINDS_ANSWERED)

    def test_nothing_is_kept_from_one_time_to_the_next(self):
        self.assertEqual(answers(list(ALL_KINDS)), answers(list(ALL_KINDS)))
        self.asked((people(0), [-11]))
        self.asked((state(), [-11]))
        self.asked((begin(2), [0]), (state(), [2] + [0, 1] * 4))
        self.asked((begin(2), [0]), (people(0), [0, 0]), (cell(1, 0), [0, 0]))
        self.asked(*told([(1, 2), (3, 2)], [(1, 1), (2, 0)]), (point(0), [0, 0, 1, 0, 1]))

    def test_nothing_is_printed_read_or_imported(self):
        refuse = mock.Mock(side_effect=AssertionError("the program reached outside"))
        printed = io.StringIO()
        with contextlib.redirect_stdout(printed), contextlib.redirect_stderr(printed):
            with mock.patch("builtins.open", refuse), mock.patch("builtins.input", refuse):
                with mock.patch("builtins.__import__", refuse):
                    given = answers(list(ALL_KINDS))
        self.assertEqual(given, ALL_KINDS_ANSWERED)
        self.assertEqual(printed.getvalue(), "")


if __name__ == "__main__":
    unittest.main()
