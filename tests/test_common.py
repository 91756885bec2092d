"""Promises 3 and 4: common and shares."""

import unittest

from helper import common, rows_within, shares, words_up_to


class Common(unittest.TestCase):
    def test_others_between(self):
        self.assertEqual(common("abcbdab", "bdcaba"), 4)
        self.assertEqual(common("kitten", "sitting"), 4)
        self.assertEqual(common("axbycz", "abc"), 3)

    def test_the_same_order(self):
        self.assertEqual(common("abc", "cba"), 1)
        self.assertEqual(common("ab", "ba"), 1)

    def test_a_byte_as_often_as_it_is_in_both(self):
        self.assertEqual(common("aaa", "aa"), 2)
        self.assertEqual(common("aba", "aca"), 2)

    def test_nothing_in_common(self):
        self.assertEqual(common("abc", "xyz"), 0)
        self.assertEqual(common("", "abc"), 0)
        self.assertEqual(common("abc", ""), 0)
        self.assertEqual(common("", ""), 0)
        self.assertEqual(common([1] * 32, [2] * 32), 0)

    def test_all_in_common(self):
        self.assertEqual(common("banana", "banana"), 6)
        self.assertEqual(common(range(224, 256), range(224, 256)), 32)
        self.assertEqual(common([0] * 32, [0] * 32), 32)

    def test_all_of_the_one_in_the_other(self):
        self.assertEqual(common("bnn", "banana"), 3)
        self.assertEqual(common([0, 1] * 16, [1] * 32), 16)

    def test_against_all_rows(self):
        words = list(words_up_to(4, (0, 1, 2)))
        within = {word: rows_within(word) for word in words}
        for s in words:
            for t in words:
                longest = max(len(kept) for kept in within[s] & within[t])
                self.assertEqual(common(s, t), longest, (s, t))


class Shares(unittest.TestCase):
    def test_as_long_as_can_be(self):
        for row in ("bcba", "bdab", "bcab"):
            self.assertEqual(shares("abcbdab", "bdcaba", row), 1)
        self.assertEqual(shares("kitten", "sitting", "ittn"), 1)
        self.assertEqual(shares("ab", "ba", "a"), 1)
        self.assertEqual(shares("ab", "ba", "b"), 1)

    def test_in_both_but_not_as_long_as_can_be(self):
        self.assertEqual(shares("abcbdab", "bdcaba", "bca"), 0)
        self.assertEqual(shares("kitten", "sitting", "itt"), 0)
        self.assertEqual(shares("abc", "abc", "ab"), 0)
        self.assertEqual(shares("abc", "abc", ""), 0)

    def test_in_one_word_alone(self):
        self.assertEqual(shares("abcbdab", "bdcaba", "abcb"), 0)
        self.assertEqual(shares("abcbdab", "bdcaba", "dcab"), 0)
        self.assertEqual(shares("ab", "cb", "a"), 0)
        self.assertEqual(shares("cb", "ab", "a"), 0)

    def test_in_neither(self):
        self.assertEqual(shares("ab", "ba", "c"), 0)
        self.assertEqual(shares("abc", "abc", "acb"), 0)
        self.assertEqual(shares("aab", "aab", "abb"), 0)

    def test_longer_than_can_be(self):
        self.assertEqual(shares("abc", "abc", "abcc"), 0)
        self.assertEqual(shares("", "", "a"), 0)
        self.assertEqual(shares("a", "a", [97] * 32), 0)

    def test_nothing_in_common(self):
        self.assertEqual(shares("abc", "xyz", ""), 1)
        self.assertEqual(shares("", "", ""), 1)
        self.assertEqual(shares("", "abc", ""), 1)
        self.assertEqual(shares("abc", "xyz", "a"), 0)

    def test_all_in_common(self):
        self.assertEqual(shares("banana", "banana", "banana"), 1)
        word = list(range(224, 256))
        self.assertEqual(shares(word, word, word), 1)
        self.assertEqual(shares(word, word, word[:31]), 0)

    def test_against_all_rows(self):
        words = list(words_up_to(3, (0, 1, 2)))
        within = {word: rows_within(word) for word in words}
        for s in words:
            for t in words:
                both = within[s] & within[t]
                longest = max(len(kept) for kept in both)
                for c in words:
                    rightly = 1 if c in both and len(c) == longest else 0
                    self.assertEqual(shares(s, t, c), rightly, (s, t, c))


if __name__ == "__main__":
    unittest.main()
