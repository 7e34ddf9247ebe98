"""The interface: how calls and answers stand in their lists, and what a call of the program leaves alone."""

import builtins
import contextlib
import io
import unittest
from unittest import mock

from rectypes.nodes import answers
from tests.helpers import (ANY, BASE, BIG, NONE, ask, flat, fn, join, kind, label, made, meet, new, part, plain, record,
                           sub, value, variant, why)


def refuse(*given, **named):
    raise AssertionError("what was handed in was changed, or something was read, printed or imported")


class Unchangeable(list):
    """A list that can't be changed, not for a while either."""

    append = extend = insert = pop = remove = clear = sort = reverse = refuse
    __setitem__ = __delitem__ = __iadd__ = __imul__ = refuse


ALL_CALLS = flat([
    *made(5), plain(0, BASE, 7), plain(1, ANY), fn(2, 2, 0), record(3, 9, 2, 4, 0), variant(4, 9, 2),
    sub(2, 2), why(3, 4), why(2, 2), sub(0, 99), plain(0, NONE), record(3, 1), join(3, 3), meet(4, 4), join(2, 99),
    meet(0, 1), kind(3), kind(99), value(0), value(1), part(3, 6), part(3, 0), label(3, 1), label(3, 2), sub(5, 3),
    new(),
])


class Answers(unittest.TestCase):
    def test_each_answer_has_its_count_ahead(self):
        self.assertEqual(answers([1]), [2, 0, 0])
        self.assertEqual(answers([1, 2, 0, 1, 5]), [2, 0, 0, 1, 0])
        self.assertEqual(answers([1, 2, 0, 2, 0, 5, 0, 0]), [2, 0, 0, 1, 0, 2, 0, 1])
        self.assertEqual(answers([5, 0, 0]), [1, -1])

    def test_a_path_stands_without_a_count_of_its_own(self):
        calls = flat([*made(4), plain(0, BASE, 1), plain(1, BASE, 2), fn(2, 0, 0), fn(3, 0, 1), why(2, 3), why(0, 1)])
        self.assertEqual(answers(calls), [2, 0, 0, 2, 0, 1, 2, 0, 2, 2, 0, 3, 1, 0, 1, 0, 1, 0, 1, 0, 2, 0, 1, 1, 0])

    def test_how_the_calls_7_to_12_stand_in_the_list(self):
        start = [1, 2, 0, 1, 5]
        answered = [2, 0, 0, 1, 0]
        for call, answer in (([7, 0, 0], [2, 0, 1]), ([8, 0, 0], [2, 0, 1]), ([9, 0], [2, 0, 1]), ([10, 0], [2, 0, 5]),
                             ([11, 0, 0], [1, -1]), ([12, 0, 0], [1, -1]), ([9, 1], [1, -1]), ([10, 1], [1, -1]),
                             ([7, 0, 1], [1, -1]), ([8, 1, 0], [1, -1])):
            self.assertEqual(answers([*start, *call]), [*answered, *answer])
            self.assertEqual(answers([*start, *call, 5, 0, 0]), [*answered, *answer, 2, 0, 1])
            self.assertEqual(answers([*call, 1]), [1, -1, 2, 0, 0])
        rows_and_look = [1, 4, 0, 6, 4, 9, 0, 3, 0, 11, 0, 5, 12, 0, 1, 11, 0, 12, 9, 0]
        self.assertEqual(answers(rows_and_look), [2, 0, 0, 1, 0, 2, 0, 0, 2, 0, 9, 1, -1, 2, 0, 6])

    def test_all_twelve_in_one_list(self):
        told = ask(new(), new(), plain(0, BASE, 3), record(1, 7, 1, 2, 0), join(1, 1), kind(2), part(2, 9), part(2, 4),
                   label(2, 0), value(3), fn(0, 0, 0), meet(1, 2), sub(4, 2), why(0, 1), why(2, 4))
        self.assertEqual(told, [[0, 0], [0, 1], [0], [0], [0, 2], [0, 5], [0, 2], [0, 3], [0, 2], [0, 3], [-3], [0, 4],
                                [0, 1], [0], [-5]])

    def test_rows_of_many_lengths_are_passed_over_rightly(self):
        for count in range(41):
            with self.subTest(count=count):
                row = flat([[k, 0] for k in range(20)])[:count]
                kept = 0 if count % 2 == 0 and count <= 16 else -1
                self.assertEqual(answers([1, 4, 0, 5, count, *row, 1]), [2, 0, 0, 1, kept, 2, 0, 1])

    def test_numbers_within_a_row_are_not_taken_for_calls(self):
        self.assertEqual(answers([1, 1, 4, 0, 5, 2, 1, 1, 1]), [2, 0, 0, 2, 0, 1, 1, 0, 2, 0, 2])

    def test_the_calls_are_all_on_one_object(self):
        self.assertEqual(ask(new(), new(), plain(0, NONE), plain(1, ANY), sub(0, 1), sub(1, 0)),
                         [[0, 0], [0, 1], [0], [0], [0, 1], [0, 0]])

    def test_a_list_of_new_whole_numbers_is_given_back(self):
        calls = list(ALL_CALLS)
        given = answers(calls)
        self.assertIs(type(given), list)
        self.assertEqual({type(number) for number in given}, {int})
        self.assertIsNot(given, calls)

    def test_what_was_handed_in_is_unchanged(self):
        calls = list(ALL_CALLS)
        answers(calls)
        self.assertEqual(calls, ALL_CALLS)

    def test_what_was_handed_in_is_not_changed_for_a_while_either(self):
        self.assertEqual(answers(Unchangeable(ALL_CALLS)), answers(list(ALL_CALLS)))

    def test_nothing_is_kept_from_one_time_to_the_next(self):
        first = answers(list(ALL_CALLS))
        self.assertEqual(answers([5, 0, 0]), [1, -1])
        self.assertEqual(answers(list(ALL_CALLS)), first)
        self.assertEqual(answers([1]), [2, 0, 0])

    def test_what_was_given_back_may_be_changed(self):
        first = answers(list(ALL_CALLS))
        kept = list(first)
        first.clear()
        self.assertEqual(answers(list(ALL_CALLS)), kept)

    def test_three_hundred_calls(self):
        calls = [*made(70), plain(0, ANY), *[sub(0, 0) for number in range(229)]]
        self.assertEqual(len(calls), 300)
        self.assertEqual(ask(*calls), [*[[0, x] for x in range(64)], *[[-2]] * 6, [0], *[[0, 1]] * 229])

    def test_three_hundred_calls_with_rows_of_forty(self):
        calls = [4, BIG, BIG, 40, *[BIG] * 40] * 300
        self.assertEqual(answers(calls), [1, -1] * 300)

    def test_nothing_is_printed_read_or_imported(self):
        out, err = io.StringIO(), io.StringIO()
        with contextlib.redirect_stdout(out), contextlib.redirect_stderr(err):
            with mock.patch.object(builtins, "open", refuse), mock.patch.object(builtins, "input", refuse), \
                    mock.patch.object(builtins, "__import__", refuse):
                answers(list(ALL_CALLS))
        self.assertEqual(out.getvalue() + err.getvalue(), "")
