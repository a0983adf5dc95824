"""The interface: how calls and answers are written, and what answers() keeps its hands off."""

import builtins
import contextlib
import io
import sys
import unittest
from unittest import mock

from tests.helper import (TOP, best, blocks, cost, drop, joined, known, nth, placed, read, shows, sides, split, start,
                          thrown, tie)
from twostrands.desk import answers

MANY = joined([
    start(3), known(1, 2), read((0, 0, 5), (1, 1, 3)), read((1, 0, 2), (2, 1, 99)), best(), nth(0), nth(TOP), sides(),
    tie(0, 1), tie(2, 2), placed(1), placed(3), blocks(), thrown(), cost([0, 1, 0], [1, 1, 1]), cost([], [TOP]),
    shows(), known(0, 1), thrown(), tie(0, 1),
    read(), drop(1), drop(1), start(7), known(3, 0), best(), start(2), sides(), best(), shows(),
])


class Unchangeable(list):
    """A list that fails on whatever would change it."""

    def refuse(self, *args, **kwargs):
        raise AssertionError("the list that was handed in is changed")

    __setitem__ = __delitem__ = __iadd__ = __imul__ = refuse
    append = clear = extend = insert = pop = remove = reverse = sort = refuse


class HowItIsWritten(unittest.TestCase):
    def test_each_call_and_its_answer(self):
        self.assertEqual(answers([0, 6]), [1, 6])
        self.assertEqual(answers([1, 1, 2]), [1, 2])
        self.assertEqual(answers([2, 3, 0, 1, 99]), [1, 1])
        self.assertEqual(answers([2, 6, 1, 0, 1, 0, 1, 2]), [1, 1])
        self.assertEqual(answers([2, 3, 0, 1, 99, 3, 1]), [1, 1, 1, 0])
        self.assertEqual(answers([4]), [6, 0, 10, 0, 0, 0, 0])
        self.assertEqual(answers([5, 5]), [4, 0, 1, 1, 0])
        self.assertEqual(answers([6]), [1, 0])
        self.assertEqual(answers([2, 3, 0, 1, 4, 6]), [1, 1, 4, 1, 1, 1, 0])
        self.assertEqual(answers([7, 0, 1]), [4, 1, 0, 1, 0])
        self.assertEqual(answers([1, 0, 1, 7, 0, 1]), [1, 1, 2, 0, 0])
        self.assertEqual(answers([8, 1]), [6, 1, 0, 1, 0, 1, 0])
        self.assertEqual(answers([1, 1, 2, 8, 1]), [1, 2, 4, 0, 0, 1, 0])
        self.assertEqual(answers([9]), [5, 2, 1, 0, 1, 1])
        self.assertEqual(answers([10]), [1, 0])
        self.assertEqual(answers([1, 0, 0, 2, 3, 0, 1, 7, 10]), [1, 0, 1, 1, 2, 1, 1])
        self.assertEqual(answers([11, 2, 0, 1, 2, 1, 1]), [1, 0])
        self.assertEqual(answers([12]), [3, 3, 3, 0])
        self.assertEqual(answers([2, 6, 1, 0, 9, 0, 1, 8, 12]), [1, 1, 11, 3, 3, 1, 1, 2, 1, 0, 9, 0, 1, 8])

    def test_a_refusal_is_one_number_alone(self):
        self.assertEqual(answers([0, 0]), [1, -1])
        self.assertEqual(answers([1, 2, 0]), [1, -1])
        self.assertEqual(answers([2, 0]), [1, -1])
        self.assertEqual(answers([3, 0]), [1, -3])
        self.assertEqual(answers([5, 10]), [1, -3])
        self.assertEqual(answers([7, 0, 0]), [1, -1])
        self.assertEqual(answers([8, 2]), [1, -1])
        self.assertEqual(answers([11, 0, 0]), [1, -1])
        self.assertEqual(answers([2, 3, 0, 0, 1] * 11)[-2:], [1, -5])

    def test_calls_stand_one_behind_another(self):
        calls = [0, 1, 1, 0, 2, 2, 3, 0, 1, 4, 2, 0, 4, 5, 0, 5, 1, 6, 3, 1, 3, 1]
        self.assertEqual(answers(calls), [1, 1, 1, 2, 1, 1, 1, -1, 4, 0, 1, 0, 1, 2, 0, 1, 1, -3, 4, 1, 1, 1, 0,
                                          1, 0, 1, -3])

    def test_a_refused_row_is_passed_over_whole(self):
        # The marks would read as calls of their own: start, known, best.
        self.assertEqual(answers([2, 6, 0, 5, 1, 0, 2, 4, 4]), [1, -1, 6, 0, 10, 0, 0, 0, 0])
        self.assertEqual(answers([2, 36] + [0] * 36 + [6]), [1, -1, 1, 0])
        self.assertEqual(answers([11, 3, 0, 5, 9, 1, 12, 10]), [1, -1, 1, 0])
        self.assertEqual(answers([11, 10] + [TOP] * 10 + [10] + [4] * 10 + [12]), [1, -1, 3, 3, 3, 0])
        self.assertEqual(answers([11, 0, 2, 0, 1, 12]), [1, -1, 3, 3, 3, 0])
        self.assertEqual(answers([11, 2, 0, 1, 0, 12]), [1, -1, 3, 3, 3, 0])

    def test_the_longest_lists(self):
        calls = [0, 6] + ([2, 36] + [4] * 36) * 39
        self.assertEqual(answers(calls), [1, 6] + [1, -1] * 39)
        self.assertEqual(len(split(answers([4] * 40))), 40)
        self.assertEqual(len(split(answers([0, 6] + [4] * 39))), 40)
        self.assertEqual(answers(([11, 10] + [1] * 10 + [10] + [0] * 10) * 40), [1, -1] * 40)

    def test_the_greatest_numbers(self):
        calls = [start(TOP), known(TOP, TOP), read((TOP, TOP, TOP)), drop(TOP), nth(TOP), tie(TOP, TOP), placed(TOP),
                 cost([TOP] * 2, [TOP] * 2), cost([TOP] * 10, [TOP] * 10), shows()]
        self.assertEqual(split(answers(joined(calls))),
                         [[-1], [-1], [-1], [-3], [-3], [-1], [-1], [-1], [-1], [3, 3, 0]])

    def test_no_number_is_below_0_but_a_refusal(self):
        for part in split(answers(MANY)):
            self.assertTrue(min(part) >= 0 or part in ([-1], [-3], [-5]), part)

    def test_all_thirteen_calls_in_one_list(self):
        calls = [start(3), known(2, 2), read((0, 0, 5), (1, 1, 3)), read((0, 1, 2), (1, 1, 9)), read((1, 0, 4)),
                 drop(3), best(), nth(1), sides(), tie(0, 2), placed(1), blocks(), thrown(),
                 cost([0, 0, 0], [1, 1, 1]), shows()]
        self.assertEqual(split(answers(joined(calls))), [
            [3], [2], [1], [2], [3], [2],
            [0, 2, 0, 1, 0, 1, 1, 1], [0, 1, 1, 1, 1, 0], [2, 1, 0, 0, 2, 1, 0],
            [1, 0, 1, 0], [1, 12, 1, 0, 1, 2], [2, 2, 0, 1, 1, 2], [0],
            [3], [3, 3, 2, 2, 1, 2, 0, 0, 5, 1, 1, 3, 2, 2, 0, 1, 2, 1, 1, 9]])

    def test_whole_numbers_and_lists_alone(self):
        given = answers(MANY)
        self.assertIs(type(given), list)
        self.assertEqual({type(number) for number in given}, {int})


class WhatItLeavesAlone(unittest.TestCase):
    def test_the_list_is_as_it_was(self):
        calls = list(MANY)
        answers(calls)
        self.assertEqual(calls, MANY)

    def test_the_list_is_not_changed_for_a_while_either(self):
        self.assertEqual(answers(Unchangeable(MANY)), answers(MANY))

    def test_a_second_time_answers_as_the_first(self):
        calls = list(MANY)
        first = answers(calls)
        self.assertEqual(answers(calls), first)
        self.assertEqual(answers(list(MANY)), first)

    def test_nothing_is_kept_from_one_list_to_the_next(self):
        answers(joined([start(5), known(0, 1), read((4, 1, 9)), read((3, 0, 9))]))
        self.assertEqual(answers([4, 6, 2, 3, 0, 0, 1, 1, 2, 0]), [6, 0, 10, 0, 0, 0, 0, 1, 0, 1, 1, 1, -1])
        answers(joined([known(0, 1), read((1, 1, 9)), best()]))
        self.assertEqual(answers([4, 6, 2, 3, 0, 0, 1]), [6, 0, 10, 0, 0, 0, 0, 1, 0, 1, 1])
        answers(joined([known(0, 1), read((0, 0, 9), (1, 1, 9)), shows(), blocks(), thrown()]))
        self.assertEqual(answers([12, 9, 10]), [3, 3, 3, 0, 5, 2, 1, 0, 1, 1, 1, 0])

    def test_what_was_given_back_is_the_askers_own(self):
        first = answers(MANY)
        kept = list(first)
        first.clear()
        self.assertEqual(answers(MANY), kept)

    def test_nothing_is_printed(self):
        out = io.StringIO()
        errors = io.StringIO()
        with contextlib.redirect_stdout(out), contextlib.redirect_stderr(errors):
            answers(MANY)
        self.assertEqual((out.getvalue(), errors.getvalue()), ("", ""))

    def test_nothing_is_read_or_imported(self):
        wrong = AssertionError("read or imported")
        # sys.stdin of None fails on any reading.
        with mock.patch.object(builtins, "open", side_effect=wrong), \
                mock.patch.object(builtins, "input", side_effect=wrong), \
                mock.patch.object(builtins, "__import__", side_effect=wrong), \
                mock.patch.object(sys, "stdin", None):
            given = answers(MANY)
        self.assertEqual(given, answers(MANY))


if __name__ == "__main__":
    unittest.main()
