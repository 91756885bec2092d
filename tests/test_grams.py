"""Promise 5: grams."""

import unittest
from collections import Counter

from helper import grams, words_up_to


class Runs(unittest.TestCase):
    def test_runs_in_both(self):
        self.assertEqual(grams(2, "night", "nacht"), 1)
        self.assertEqual(grams(2, "abcd", "bcda"), 2)
        self.assertEqual(grams(3, "abcde", "xbcdy"), 1)
        self.assertEqual(grams(2, "context", "contact"), 3)

    def test_places_don_t_matter(self):
        self.assertEqual(grams(2, "abxcd", "cdyab"), 2)
        self.assertEqual(grams(1, "abc", "cba"), 3)
        self.assertEqual(grams(2, "abc", "cba"), 0)

    def test_bytes_of_a_run_stand_side_by_side(self):
        self.assertEqual(grams(2, "ab", "axb"), 0)
        self.assertEqual(grams(3, "abcd", "abxcd"), 0)

    def test_runs_that_overlap(self):
        self.assertEqual(grams(2, "aaa", "aaaa"), 2)
        self.assertEqual(grams(3, "ababa", "babab"), 2)
        self.assertEqual(grams(3, "banana", "ananas"), 3)

    def test_nothing_in_common(self):
        self.assertEqual(grams(1, "abc", "xyz"), 0)
        self.assertEqual(grams(2, "abc", "acb"), 0)


class AsOftenAsInBoth(unittest.TestCase):
    def test_more_than_once_in_one_word(self):
        self.assertEqual(grams(1, "aaa", "a"), 1)
        self.assertEqual(grams(1, "a", "aaa"), 1)
        self.assertEqual(grams(2, "ababab", "ab"), 1)
        self.assertEqual(grams(2, "ab", "ababab"), 1)

    def test_more_than_once_in_both(self):
        self.assertEqual(grams(1, "aaab", "aabb"), 3)
        self.assertEqual(grams(2, "ababab", "abab"), 3)
        self.assertEqual(grams(2, "ababxab", "abyab"), 2)
        self.assertEqual(grams(1, [0] * 32, [0] * 31), 31)

    def test_several_runs_more_than_once(self):
        self.assertEqual(grams(1, "aabbbc", "abbccc"), 4)
        self.assertEqual(grams(2, "abcabc", "bcabca"), 4)


class Lengths(unittest.TestCase):
    def test_one_byte(self):
        self.assertEqual(grams(1, "a", "a"), 1)
        self.assertEqual(grams(1, "a", "b"), 0)
        self.assertEqual(grams(1, range(224, 256), range(224, 256)), 32)

    def test_as_long_as_a_word(self):
        self.assertEqual(grams(3, "abc", "abc"), 1)
        self.assertEqual(grams(3, "abc", "abd"), 0)
        self.assertEqual(grams(3, "abc", "xabcabc"), 1)
        self.assertEqual(grams(3, "xabcabc", "abc"), 1)
        word = list(range(32))
        self.assertEqual(grams(32, word, word), 1)
        self.assertEqual(grams(32, word, word[::-1]), 0)
        self.assertEqual(grams(31, word, word), 2)

    def test_longer_than_a_word(self):
        self.assertEqual(grams(4, "abc", "abc"), 0)
        self.assertEqual(grams(4, "abc", "abcd"), 0)
        self.assertEqual(grams(4, "abcd", "abc"), 0)
        self.assertEqual(grams(5, "abc", "abc"), 0)
        self.assertEqual(grams(32, "abc", "abc"), 0)
        self.assertEqual(grams(32, [1] * 31, [1] * 31), 0)
        self.assertEqual(grams(32, [1] * 31, [1] * 32), 0)

    def test_words_without_bytes(self):
        for q in (1, 2, 32):
            self.assertEqual(grams(q, "", ""), 0)
            self.assertEqual(grams(q, "", "abc"), 0)
            self.assertEqual(grams(q, "abc", ""), 0)

    def test_bytes_0_and_255(self):
        self.assertEqual(grams(2, [0, 255, 0], [255, 0, 255]), 2)
        self.assertEqual(grams(1, [0], [0, 0]), 1)

    def test_rows_with_the_same_digits(self):
        self.assertEqual(grams(2, [1, 23], [12, 3]), 0)
        self.assertEqual(grams(2, [0, 1], [1, 0]), 0)


class AgainstCounting(unittest.TestCase):
    def test_all_short_words(self):
        words = list(words_up_to(5, (0, 1)))
        for q in range(1, 7):
            counted = {word: Counter(word[place:place + q] for place in range(len(word)) if place + q <= len(word))
                       for word in words}
            for s in words:
                for t in words:
                    rightly = sum((counted[s] & counted[t]).values())
                    self.assertEqual(grams(q, s, t), rightly, (q, s, t))


if __name__ == "__main__":
    unittest.main()
