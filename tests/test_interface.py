"""How calls stand in the list that is handed in, and answers in the one that is given back."""

import builtins
import contextlib
import io
import itertools
import sys
import unittest
from unittest import mock

from helper import (GREATEST, PUT_IN, SET, add_call, common_call, count_call, edit, far_call, grams_call, joined,
                    makes_call, near_call, shares_call)
from nearwords.desk import NoSuchCall, answers

# None of these is answered otherwise for what stands before it.
CALLS_IN_ANY_ORDER = (
    (far_call(1, "kitten", "sitting"), [1, 3]),
    (makes_call(0, "ac", "abc", [edit(PUT_IN, 1, "b")]), [1, 1]),
    (common_call("abcbdab", "bdcaba"), [1, 4]),
    (shares_call("ab", "ba", "c"), [1, 0]),
    (far_call(3, "a", "ab"), [1, -2]),
    (shares_call("ab", [1] * 40, "b"), [1, -1]),
    (grams_call(2, "abab", "ab"), [1, 1]),
)
ALL_EIGHT = CALLS_IN_ANY_ORDER + (
    (near_call(1, 9, 0, "ab"), [1, -2]),
    (add_call("ab"), [1, 0]),
    (add_call(""), [1, 0]),
    (near_call(1, 9, 0, "ac"), [3, 1, 97, 98]),
    (near_call(1, 9, 1, "ac"), [1, 2]),
    (near_call(3, 9, 1, "ac"), [1, -2]),
    (add_call("ab"), [1, 1]),
    (count_call(1, 1, "ac"), [1, 1]),
    (count_call(2, GREATEST, "ac"), [1, 2]),
    (add_call([1] * 33), [1, -1]),
)

ALL_CALLS = joined(call for call, answer in ALL_EIGHT)
ALL_ANSWERS = joined(answer for call, answer in ALL_EIGHT)


def refuse_change(self, *rest, **named):
    raise AssertionError("the list was changed")


class Unchanged(list):
    """A list that can't be changed, not for a while either."""

    __setitem__ = __delitem__ = __iadd__ = __imul__ = refuse_change
    append = extend = insert = pop = remove = clear = sort = reverse = refuse_change


class Form(unittest.TestCase):
    def test_numbers_as_they_stand(self):
        self.assertEqual(answers([0, 1, 1, 97, 2, 97, 98]), [1, 1])
        self.assertEqual(answers([1, 3, 1, 5, 1, 6, 1, 196614]), [1, 1])
        self.assertEqual(answers([2, 3, 1, 2, 3, 2, 1, 3]), [1, 2])
        self.assertEqual(answers([3, 3, 1, 2, 3, 2, 1, 3, 2, 1, 3]), [1, 1])
        self.assertEqual(answers([4, 2, 3, 1, 2, 3, 2, 2, 3]), [1, 1])
        self.assertEqual(answers([5, 2, 8, 9]), [1, 0])
        self.assertEqual(answers([5, 2, 8, 9, 6, 1, 5, 0, 1, 9]), [1, 0, 3, 1, 8, 9])
        self.assertEqual(answers([5, 2, 8, 9, 7, 1, 5, 1, 9]), [1, 0, 1, 1])

    def test_rows_without_numbers(self):
        self.assertEqual(answers([0, 0, 0, 0]), [1, 0])
        self.assertEqual(answers([1, 0, 0, 0, 0]), [1, 1])
        self.assertEqual(answers([2, 0, 0]), [1, 0])
        self.assertEqual(answers([3, 0, 0, 0]), [1, 1])
        self.assertEqual(answers([4, 1, 0, 0]), [1, 0])
        self.assertEqual(answers([5, 0]), [1, 0])
        self.assertEqual(answers([6, 0, 0, 0, 0]), [1, -2])
        self.assertEqual(answers([7, 0, 0, 0]), [1, 0])
        self.assertEqual(answers([5, 0, 6, 0, 0, 0, 0, 7, 0, 0, 0]), [1, 0, 1, 0, 1, 1])

    def test_several_calls_in_any_order(self):
        for order in itertools.permutations(CALLS_IN_ANY_ORDER, 4):
            calls = joined(call for call, answer in order)
            self.assertEqual(answers(calls), joined(answer for call, answer in order))

    def test_all_eight_calls_in_one_list(self):
        self.assertEqual({call[0] for call, answer in ALL_EIGHT}, set(range(8)))
        self.assertEqual(answers(ALL_CALLS), ALL_ANSWERS)

    def test_the_dictionary_s_calls_in_any_order(self):
        calls = (add_call("ab"), add_call("b"), near_call(0, 9, 0, ""), count_call(0, 9, ""))
        for order in itertools.permutations(calls):
            expected, words = [], []
            for call in order:
                if call[0] == 5:
                    words.append(call[2:])
                    expected += [1, 0]
                elif call[0] == 7:
                    expected += [1, len(words)]
                else:
                    nearest = min(words, key=len, default=None)
                    expected += [1, -2] if nearest is None else [1 + len(nearest), len(nearest)] + nearest
            self.assertEqual(answers(joined(order)), expected, order)

    def test_a_refusal_reads_the_whole_call(self):
        for refused in (far_call(4, "ab", "c"), makes_call(-1, "ab", "c", [1, 2, 3]),
                        makes_call(0, [0] * 40, [1] * 40, [2] * 80), common_call([2] * 33, [3] * 40),
                        shares_call([0] * 40, [1] * 40, [2] * 40), grams_call(0, "ab", "c"),
                        grams_call(1, [4] * 40, [5] * 33), add_call([5] * 33), add_call([6] * 40),
                        near_call(4, 0, 0, "ab"), near_call(0, 0, -1, "ab"), near_call(0, 0, 0, [6] * 40),
                        count_call(4, 0, "ab"), count_call(0, 0, [7] * 40)):
            self.assertEqual(answers(refused + far_call(0, "a", "b") + refused), [1, -1, 1, 2, 1, -1])

    def test_300_calls(self):
        many = (CALLS_IN_ANY_ORDER * 50)[:300 - len(ALL_EIGHT)] + ALL_EIGHT
        self.assertEqual(len(many), 300)
        self.assertEqual(answers(joined(call for call, answer in many)), joined(answer for call, answer in many))
        longest = far_call(2, [1, 2] * 16, [3, 4] * 16) * 300
        self.assertEqual(answers(longest), [1, 32] * 300)

    def test_300_calls_of_the_dictionary(self):
        words = [[number, 255] * 16 for number in range(100)]
        calls = [add_call(word) for word in words]
        calls += [near_call(3, 16, 1, word) for word in words] + [count_call(3, 15, word) for word in words]
        nearest = [[33, 16] + words[1]] + [[33, 16] + words[0]] * 99
        self.assertEqual(answers(joined(calls)), [1, 0] * 100 + joined(nearest) + [1, 1] * 100)

    def test_whole_numbers_in_a_list(self):
        given = answers(ALL_CALLS)
        self.assertIs(type(given), list)
        self.assertEqual({type(number) for number in given}, {int})


class NothingElse(unittest.TestCase):
    def test_what_is_handed_in_is_not_changed(self):
        calls = list(ALL_CALLS)
        answers(calls)
        self.assertEqual(calls, ALL_CALLS)

    def test_nor_for_a_while(self):
        self.assertEqual(answers(Unchanged(ALL_CALLS)), ALL_ANSWERS)

    def test_a_second_time_gives_the_same(self):
        first = answers(ALL_CALLS)
        answers(far_call(0, "other", "words"))
        second = answers(ALL_CALLS)
        self.assertEqual(first, second)
        self.assertIsNot(first, second)

    def test_one_time_does_not_know_of_the_words_of_another(self):
        self.assertEqual(answers(add_call("ab")), [1, 0])
        self.assertEqual(answers(add_call("ab")), [1, 0])
        self.assertEqual(answers(near_call(0, GREATEST, 0, "ab")), [1, -2])
        self.assertEqual(answers(count_call(0, GREATEST, "ab")), [1, 0])
        many = joined(add_call([number]) for number in range(256))
        self.assertEqual(answers(many), [1, 0] * 256)
        self.assertEqual(answers(many), [1, 0] * 256)
        self.assertEqual(answers(add_call("ab") + count_call(0, GREATEST, "ab")), [1, 0, 1, 1])

    def test_what_was_given_back_may_be_changed(self):
        answers(ALL_CALLS).clear()
        self.assertEqual(answers(ALL_CALLS), ALL_ANSWERS)

    def test_nothing_is_printed_read_or_imported(self):
        wrong = AssertionError("nothing is to be read or imported")
        printed = io.StringIO()
        with contextlib.redirect_stdout(printed), contextlib.redirect_stderr(printed), \
                mock.patch.object(sys, "stdin", None), \
                mock.patch.object(builtins, "open", side_effect=wrong), \
                mock.patch.object(builtins, "__import__", side_effect=wrong):
            given = answers(ALL_CALLS)
        self.assertEqual(given, ALL_ANSWERS)
        self.assertEqual(printed.getvalue(), "")

    def test_no_other_call(self):
        for number in (-1, 8, 255):
            with self.assertRaises(NoSuchCall):
                answers([number, 0, 0, 0])

    def test_an_edit_is_its_number(self):
        self.assertEqual(edit(SET, 2, 5), 3 * 65536 + 2 * 256 + 5)


if __name__ == "__main__":
    unittest.main()
