"""The interface: how calls and answers are laid out in lists, and what answers() leaves alone."""

import builtins
import contextlib
import io
import random
import sys
import unittest
from unittest import mock

from sweptheapdesk.machine import answers, split_calls
from tests.helper import (arg, as_numbers, back, choice, clear, con, copy, cut, heap, line, look, new, same, some_line,
                          split_answers, struct, sweep, value)


class ReadOnlyList(list):
    """A list that can't be changed, not for a while either."""

    def refuse(self, *args, **keywords):
        raise AssertionError("the list that was handed in is changed")

    append = clear = extend = insert = pop = remove = reverse = sort = refuse
    __setitem__ = __delitem__ = __iadd__ = __imul__ = refuse


MIXED = [new(0), con(1, 7), struct(2, 5, [0, 1]), copy(2, 3), same(0, 1), arg(3, 0, 4), same(4, 1),
         clear(0), same(0, 1), new(16), struct(0, 3, []), con(0, 1000), arg(2, 2, 5), new(5), choice(), same(5, 1),
         look(), value([2, 5]), heap(), clear(5), sweep(), look(), back(), value([5]), cut(0), value([]), back(),
         value([9])]
MIXED_ANSWERS = [1, 0, 1, 0, 1, 0, 1, 0, 1, 1, 1, 1, 1, 1, 1, 0, 1, -4, 1, -2, 1, -1, 1, -1, 1, 0, 1, 0, 1, 1, 1, 1,
                 3, 5, 1, 1, 9, 0, 3, 5, 1, 7, 1, 7, 1, 7,
                 16, 5, 1, 7, 4, 5, 0, 0, 1, 7, 1, 7, 1, 4, 1, 5, 0,
                 1, 0, 2, 0, 1, 3, 5, 0, 1, 1, 1, 3, 0, 0, 0, 1, 0, 1, 0, 1, 0, 1, -4]


class Layout(unittest.TestCase):
    def test_one_call(self):
        self.assertEqual(answers([0, 0]), [1, 0])
        self.assertEqual(answers([0, 16]), [1, -2])
        self.assertEqual(answers([1, 0, 999]), [1, 0])
        self.assertEqual(answers([2, 0, 1, 0]), [1, -1])
        self.assertEqual(answers([2, 0, 1, 1, 3]), [1, -4])
        self.assertEqual(answers([3, 0, 1]), [1, -4])
        self.assertEqual(answers([4, 0]), [1, 0])
        self.assertEqual(answers([5, 0, 0]), [1, -4])
        self.assertEqual(answers([6, 0, 0, 0]), [1, -4])
        self.assertEqual(answers([7]), [1, 1])
        self.assertEqual(answers([8]), [1, 0])
        self.assertEqual(answers([9, 1000]), [1, 0])
        self.assertEqual(answers([10, 0]), [1, 0])
        self.assertEqual(answers([10, 1, 3]), [1, -4])
        self.assertEqual(answers([11]), [3, 0, 0, 0])
        self.assertEqual(answers([12]), [2, 0, 0])
        self.assertEqual(answers([13]), [3, 0, 0, 0])

    def test_calls_of_all_lengths_one_behind_another(self):
        self.assertEqual(answers([0, 0, 1, 1, 7, 2, 2, 5, 2, 0, 1, 3, 2, 3, 5, 0, 1, 6, 3, 0, 4, 4, 0]),
                         [1, 0, 1, 0, 1, 0, 1, 0, 1, 1, 1, 1, 1, 0])
        self.assertEqual(answers(line(MIXED)), MIXED_ANSWERS)

    def test_str_with_lists_of_0_to_30_numbers(self):
        for length in range(31):
            with self.subTest(length=length):
                calls = [0, 3, 2, 4, 8, length] + [3] * length + [5, 4, 4, 5, 3, 3]
                built = 1 <= length <= 4
                self.assertEqual(answers(calls), [1, 0, 1, 0 if built else -1, 1, 1 if built else -4, 1, 1])

    def test_value_with_lists_of_0_to_30_numbers(self):
        for length in range(31):
            with self.subTest(length=length):
                answered = [1 + 2 * length, 0] + [0, 0] * length if length <= 16 else [1, -1]
                self.assertEqual(answers([0, 3, 10, length] + [3] * length + [5, 3, 3]), [1, 0] + answered + [1, 1])

    def test_the_numbers_of_a_row_are_no_calls(self):
        self.assertEqual(answers([0, 0, 2, 1, 2, 30] + [0, 1, 2, 3, 4, 5] * 5 + [5, 0, 0]), [1, 0, 1, -1, 1, 1])
        self.assertEqual(answers([0, 0, 10, 28] + list(range(14)) * 2 + [11]), [1, 0, 1, -1, 3, 1, 0, 0])

    def test_split_calls(self):
        self.assertEqual(split_calls([0, 9, 2, 1, 2, 3, 4, 5, 6, 6, 7, 8, 9]),
                         [(0, [9], []), (2, [1, 2], [4, 5, 6]), (6, [7, 8, 9], [])])
        self.assertEqual(split_calls([7, 8, 9, 10, 10, 2, 11, 12, 13, 12, 11, 10, 0, 9, 7]),
                         [(7, [], []), (8, [], []), (9, [10], []), (10, [], [11, 12]), (13, [], []), (12, [], []),
                          (11, [], []), (10, [], []), (9, [7], [])])

    def test_100_calls(self):
        self.assertEqual(answers([0, 0] * 100), [1, 0] * 100)
        self.assertEqual(answers(([2, 0, 0, 30] + [0] * 30) * 100), [1, -1] * 100)
        self.assertEqual(answers([11, 12, 13, 8] * 25), [3, 0, 0, 0, 2, 0, 0, 3, 0, 0, 0, 1, 0] * 25)


class Values(unittest.TestCase):
    def test_a_list_of_ints_is_given_back(self):
        given = answers(line(MIXED))
        self.assertIs(type(given), list)
        self.assertEqual({type(number) for number in given}, {int})

    def test_what_is_handed_in_is_not_changed(self):
        calls = line(MIXED)
        self.assertEqual(answers(calls), MIXED_ANSWERS)
        self.assertEqual(calls, line(MIXED))
        self.assertEqual(answers(ReadOnlyList(calls)), MIXED_ANSWERS)

    def test_what_is_given_back_is_not_what_was_handed_in(self):
        calls = line(MIXED)
        answers(calls).clear()
        self.assertEqual(answers(calls), MIXED_ANSWERS)

    def test_nothing_is_kept_from_one_time_to_the_next(self):
        calls = line(MIXED)
        first = answers(calls)
        self.assertEqual(answers([5, 1, 2]), [1, -4])
        self.assertEqual(answers([6, 2, 0, 0]), [1, -4])
        self.assertEqual(answers(calls), first)
        self.assertEqual(answers(calls), first)

    def test_both_of_lines_drawn_at_random(self):
        source = random.Random(40)
        for _ in range(200):
            calls = as_numbers(some_line(source, 100))
            before = list(calls)
            first = answers(ReadOnlyList(calls))
            self.assertEqual(answers(calls), first)
            self.assertEqual(calls, before)
            self.assertEqual({type(number) for number in first}, {int})
            for answered in split_answers(first):
                self.assertTrue(len(answered) == 1 or min(answered) >= 0)

    def test_nothing_is_printed_read_or_imported(self):
        def refuse(*args, **keywords):
            raise AssertionError("read or imported")
        out, err = io.StringIO(), io.StringIO()
        modules = sorted(sys.modules)
        calls = line(MIXED)
        with contextlib.redirect_stdout(out), contextlib.redirect_stderr(err), \
                mock.patch.object(builtins, "open", refuse), mock.patch.object(builtins, "input", refuse), \
                mock.patch.object(builtins, "__import__", refuse):
            given = answers(calls)
        self.assertEqual(given, MIXED_ANSWERS)
        self.assertEqual((out.getvalue(), err.getvalue()), ("", ""))
        self.assertEqual(sorted(sys.modules), modules)


if __name__ == "__main__":
    unittest.main()
