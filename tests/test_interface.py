"""How calls stand in the list that is handed in, and answers in the one that is given back."""

import builtins
import contextlib
import io
import itertools
import sys
import unittest
from unittest import mock

from helper import PUT_IN, SET, common_call, edit, far_call, makes_call, shares_call
from nearwords.desk import answers

CALLS_AND_ANSWERS = (
    (far_call(1, "kitten", "sitting"), [1, 3]),
    (makes_call(0, "ac", "abc", [edit(PUT_IN, 1, "b")]), [1, 1]),
    (common_call("abcbdab", "bdcaba"), [1, 4]),
    (shares_call("ab", "ba", "c"), [1, 0]),
    (far_call(3, "a", "ab"), [1, -2]),
    (shares_call("ab", [1] * 40, "b"), [1, -1]),
)


def joined(lists):
    return list(itertools.chain.from_iterable(lists))


ALL_CALLS = joined(call for call, answer in CALLS_AND_ANSWERS)
ALL_ANSWERS = joined(answer for call, answer in CALLS_AND_ANSWERS)


def refuse_change(self, *rest, **named):
    raise AssertionError("the list was changed")


class Unchanged(list):
    """A list that can't be changed, not for a while either."""

    __setitem__ = __delitem__ = __iadd__ = __imul__ = refuse_change
    append = extend = insert = pop = remove = clear = sort = reverse = refuse_change


class Form(unittest.TestCase):
    def test_numbers_as_they_stand(self):
        self.assertEqual(answers([0, 1, 1, 97, 2, 97, 98]), [1, 1])
        self.assertEqual(answers([1, 3, 1, 5, 1, 6, 1, 196614]), [1, 1])
        self.assertEqual(answers([2, 3, 1, 2, 3, 2, 1, 3]), [1, 2])
        self.assertEqual(answers([3, 3, 1, 2, 3, 2, 1, 3, 2, 1, 3]), [1, 1])

    def test_rows_without_numbers(self):
        self.assertEqual(answers([0, 0, 0, 0]), [1, 0])
        self.assertEqual(answers([1, 0, 0, 0, 0]), [1, 1])
        self.assertEqual(answers([2, 0, 0]), [1, 0])
        self.assertEqual(answers([3, 0, 0, 0]), [1, 1])

    def test_several_calls_in_any_order(self):
        for order in itertools.permutations(CALLS_AND_ANSWERS):
            calls = joined(call for call, answer in order)
            self.assertEqual(answers(calls), joined(answer for call, answer in order))

    def test_a_refusal_reads_the_whole_call(self):
        for refused in (far_call(4, "ab", "c"), makes_call(-1, "ab", "c", [1, 2, 3]),
                        makes_call(0, [0] * 40, [1] * 40, [2] * 80), common_call([2] * 33, [3] * 40),
                        shares_call([0] * 40, [1] * 40, [2] * 40)):
            self.assertEqual(answers(refused + far_call(0, "a", "b") + refused), [1, -1, 1, 2, 1, -1])

    def test_300_calls(self):
        self.assertEqual(answers(ALL_CALLS * 50), ALL_ANSWERS * 50)
        longest = far_call(2, [1, 2] * 16, [3, 4] * 16) * 300
        self.assertEqual(answers(longest), [1, 32] * 300)

    def test_whole_numbers_in_a_list(self):
        given = answers(ALL_CALLS)
        self.assertIs(type(given), list)
        self.assertEqual({type(number) for number in given}, {int})


class NothingElse(unittest.TestCase):
    def test_what_is_handed_in_is_not_changed(self):
        calls = list(ALL_CALLS)
        answers(calls)
        self.assertEqual(calls, ALL_CALLS)

    def test_nor_for_a_while(self):
        self.assertEqual(answers(Unchanged(ALL_CALLS)), ALL_ANSWERS)

    def test_a_second_time_gives_the_same(self):
        first = answers(ALL_CALLS)
        answers(far_call(0, "other", "words"))
        second = answers(ALL_CALLS)
        self.assertEqual(first, second)
        self.assertIsNot(first, second)

    def test_what_was_given_back_may_be_changed(self):
        answers(ALL_CALLS).clear()
        self.assertEqual(answers(ALL_CALLS), ALL_ANSWERS)

    def test_nothing_is_printed_read_or_imported(self):
        wrong = AssertionError("nothing is to be read or imported")
        printed = io.StringIO()
        with contextlib.redirect_stdout(printed), contextlib.redirect_stderr(printed), \
                mock.patch.object(sys, "stdin", None), \
                mock.patch.object(builtins, "open", side_effect=wrong), \
                mock.patch.object(builtins, "__import__", side_effect=wrong):
            given = answers(ALL_CALLS)
        self.assertEqual(given, ALL_ANSWERS)
        self.assertEqual(printed.getvalue(), "")

    def test_an_edit_is_its_number(self):
        self.assertEqual(edit(SET, 2, 5), 3 * 65536 + 2 * 256 + 5)


if __name__ == "__main__":
    unittest.main()
