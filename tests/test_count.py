"""Promise 8: count."""

import itertools
import unittest

from helper import (GREATEST, LEAST, add_call, ask_all, ask_with, count, count_call, distances_from, made_in_one,
                    words_up_to)

WORDS = ("abcd", "abdc", "abce", "bcd", "xbcd", "abcde", "")


class EachWay(unittest.TestCase):
    def counts(self, way, s):
        return [answer for answer, in ask_with(WORDS, [count_call(way, k, s) for k in range(6)])]

    def test_way_0(self):
        self.assertEqual(self.counts(0, "abcd"), [1, 3, 6, 6, 7, 7])

    def test_way_1(self):
        self.assertEqual(self.counts(1, "abcd"), [1, 5, 6, 6, 7, 7])

    def test_way_2(self):
        self.assertEqual(self.counts(2, "abcd"), [1, 6, 6, 6, 7, 7])

    def test_way_3(self):
        self.assertEqual(self.counts(3, "abcd"), [1, 3, 4, 4, 4, 4])


class NoFurtherThanK(unittest.TestCase):
    def test_k_below_0(self):
        for way, k in itertools.product(range(4), (-1, -2, -3, -64, LEAST)):
            self.assertEqual(count(WORDS, way, k, "abcd"), 0)
            self.assertEqual(count(["abc"], way, k, "ab"), 0)

    def test_k_of_0(self):
        for way in range(4):
            self.assertEqual(count(WORDS, way, 0, "abcd"), 1)
            self.assertEqual(count(WORDS, way, 0, ""), 1)
            self.assertEqual(count(WORDS, way, 0, "zzzz"), 0)

    def test_as_far_as_k(self):
        for way, far in ((0, 64), (1, 32), (2, 32), (3, 32)):
            self.assertEqual(count([[1] * 32], way, far, [2] * 32), 1)
            self.assertEqual(count([[1] * 32], way, far - 1, [2] * 32), 0)

    def test_as_far_as_k_by_length_alone(self):
        for way in range(3):
            self.assertEqual([count(["abcd", "ab"], way, k, "abc") for k in range(3)], [0, 2, 2])
            self.assertEqual([count(["abcd"], way, k, "") for k in (3, 4)], [0, 1])
            self.assertEqual([count([""], way, k, "abcd") for k in (3, 4)], [0, 1])

    def test_k_as_great_as_can_be(self):
        for way in range(3):
            self.assertEqual(count(WORDS, way, GREATEST, [0] * 32), len(WORDS))
        self.assertEqual(count(WORDS, 3, GREATEST, "zzzz"), 4)


class NoDistance(unittest.TestCase):
    def test_words_of_other_lengths_are_left_out(self):
        for k in (0, 1, 2, 64, GREATEST):
            self.assertEqual(count(["a", "aaa", "aaaa", ""], 3, k, "aa"), 0)
            self.assertEqual(count(["a", "aaa", "aa", ""], 3, k, "aa"), 1)


class Edges(unittest.TestCase):
    def test_no_words(self):
        for way, k in itertools.product(range(4), (LEAST, 0, GREATEST)):
            for s in ("", "abc", [1] * 32):
                self.assertEqual(count([], way, k, s), 0)

    def test_256_words(self):
        words = [[number] for number in range(256)]
        calls = [count_call(way, k, [7]) for way in range(4) for k in (-1, 0, 1, 2, GREATEST)]
        rightly = [0, 1, 1, 256, 256] + [0, 1, 256, 256, 256] * 3
        self.assertEqual(ask_with(words, calls), [[number] for number in rightly])

    def test_words_that_come_later(self):
        calls = [count_call(1, 1, "a"), add_call("b"), count_call(1, 1, "a"), add_call("cc"), count_call(1, 1, "a"),
                 add_call(""), count_call(1, 1, "a"), count_call(1, 2, "a")]
        self.assertEqual(ask_all(calls), [[0], [0], [1], [0], [1], [0], [2], [3]])


class AgainstSearch(unittest.TestCase):
    def test_every_way(self):
        words = list(words_up_to(4, (0, 255)))
        for way in range(4):
            steps = made_in_one(way, 6, (0, 255))
            for s in words:
                found = distances_from(s, steps)
                within = [sum(1 for word in words if word in found and found[word] <= k) for k in range(-1, 9)]
                answered = ask_with(words, [count_call(way, k, s) for k in range(-1, 9)])
                self.assertEqual(answered, [[number] for number in within], (way, s))


if __name__ == "__main__":
    unittest.main()
