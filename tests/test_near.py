"""Promise 7: near."""

import itertools
import unittest

from helper import (GREATEST, LEAST, add_call, ask_all, ask_with, count_call, distances_from, made_in_one, near,
                    near_call, numbers_of, ranking, text_ranking, words_up_to)

WORDS = ("abcd", "abdc", "abce", "bcd", "xbcd", "abcde", "")


class EachWay(unittest.TestCase):
    def test_way_0(self):
        self.assertEqual(text_ranking(WORDS, 0, 9, "abcd"),
                         [(0, "abcd"), (1, "abcde"), (1, "bcd"), (2, "abce"), (2, "abdc"), (2, "xbcd"), (4, "")])

    def test_way_1(self):
        self.assertEqual(text_ranking(WORDS, 1, 9, "abcd"),
                         [(0, "abcd"), (1, "abcde"), (1, "abce"), (1, "bcd"), (1, "xbcd"), (2, "abdc"), (4, "")])

    def test_way_2(self):
        self.assertEqual(text_ranking(WORDS, 2, 9, "abcd"),
                         [(0, "abcd"), (1, "abcde"), (1, "abce"), (1, "abdc"), (1, "bcd"), (1, "xbcd"), (4, "")])

    def test_way_3(self):
        self.assertEqual(text_ranking(WORDS, 3, 9, "abcd"), [(0, "abcd"), (1, "abce"), (1, "xbcd"), (2, "abdc")])

    def test_way_2_with_others_between(self):
        self.assertEqual(text_ranking(["abc", "cba", "bbb"], 2, 9, "ca"), [(1, "cba"), (2, "abc"), (3, "bbb")])


class Order(unittest.TestCase):
    def test_the_nearest_first(self):
        self.assertEqual(text_ranking(["aaaa", "aaab", "abbb", "bbbb"], 3, 4, "bbbb"),
                         [(0, "bbbb"), (1, "abbb"), (3, "aaab"), (4, "aaaa")])

    def test_nearer_goes_before_less(self):
        self.assertEqual(text_ranking(["a", "zz"], 1, 9, "zzz"), [(1, "zz"), (3, "a")])

    def test_less_by_the_first_byte_in_which_they_differ(self):
        self.assertEqual(text_ranking(["bz", "ca", "az", "cz"], 3, 2, "xx"),
                         [(2, "az"), (2, "bz"), (2, "ca"), (2, "cz")])
        self.assertEqual(text_ranking(["aabb", "abaa", "aaba"], 3, 4, "xxxx"),
                         [(4, "aaba"), (4, "aabb"), (4, "abaa")])

    def test_less_and_longer(self):
        self.assertEqual(text_ranking(["b", "abb"], 1, 9, "bb"), [(1, "abb"), (1, "b")])
        self.assertEqual(text_ranking(["z", "az"], 0, 9, ""), [(1, "z"), (2, "az")])

    def test_bytes_above_127(self):
        words = [[200], [127], [0], [255], [128], [9], [10], [100]]
        self.assertEqual(ranking(words, 3, 1, [1]), [(1, [byte]) for byte in (0, 9, 10, 100, 127, 128, 200, 255)])
        words = [[5, 128], [5, 127], [128, 0], [127, 255]]
        self.assertEqual(ranking(words, 0, 9, []),
                         [(2, [5, 127]), (2, [5, 128]), (2, [127, 255]), (2, [128, 0])])

    def test_a_words_beginning_is_less(self):
        self.assertEqual(text_ranking(["abc", "a"], 0, 9, "ab"), [(1, "a"), (1, "abc")])
        self.assertEqual(ranking([[7, 0], [7]], 1, 9, [8, 8]), [(2, [7]), (2, [7, 0])])
        self.assertEqual(ranking([[0], []], 1, 9, [1]), [(1, []), (1, [0])])

    def test_words_added_in_any_order(self):
        words = ["ab", "ac", "abc", "b", ""]
        rightly = text_ranking(words, 1, 9, "ab")
        self.assertEqual(rightly, [(0, "ab"), (1, "abc"), (1, "ac"), (1, "b"), (2, "")])
        for order in itertools.permutations(words):
            self.assertEqual(text_ranking(order, 1, 9, "ab"), rightly)


class WithIBeforeIt(unittest.TestCase):
    def test_from_the_first_to_behind_the_last(self):
        calls = [near_call(3, 9, i, "aa") for i in (0, 1, 2, 3, 4, GREATEST)]
        self.assertEqual(ask_with(["ba", "aa", "bb"], calls),
                         [[0, 97, 97], [1, 98, 97], [2, 98, 98], [-2], [-2], [-2]])

    def test_those_that_are_further_don_t_count(self):
        self.assertEqual(near(["ba", "aa", "bb"], 3, 1, 1, "aa"), (1, [98, 97]))
        self.assertEqual(near(["ba", "aa", "bb"], 3, 1, 2, "aa"), [-2])

    def test_i_above_256(self):
        words = [[number] for number in range(256)]
        calls = [near_call(3, 1, i, [0]) for i in (0, 1, 255, 256, 257, GREATEST)]
        self.assertEqual(ask_with(words, calls), [[0, 0], [1, 1], [1, 255], [-2], [-2], [-2]])


class NoFurtherThanK(unittest.TestCase):
    def test_k_of_0(self):
        for way in range(4):
            self.assertEqual(text_ranking(WORDS, way, 0, "abce"), [(0, "abce")])
            self.assertEqual(text_ranking(WORDS, way, 0, "zzzz"), [])

    def test_k_below_0(self):
        for way, k in itertools.product(range(4), (-1, -2, -3, -64, LEAST)):
            self.assertEqual(near(WORDS, way, k, 0, "abcd"), [-2])
            self.assertEqual(near(["abc"], way, k, 0, "ab"), [-2])

    def test_as_far_as_k(self):
        self.assertEqual(text_ranking(WORDS, 0, 1, "abcd"), [(0, "abcd"), (1, "abcde"), (1, "bcd")])
        for way, far in ((0, 64), (1, 32), (2, 32), (3, 32)):
            self.assertEqual(near([[1] * 32], way, far, 0, [2] * 32), (far, [1] * 32))
            self.assertEqual(near([[1] * 32], way, far - 1, 0, [2] * 32), [-2])

    def test_as_far_as_k_by_length_alone(self):
        for way in range(3):
            self.assertEqual(near(["abcd"], way, 2, 0, "ab"), (2, numbers_of("abcd")))
            self.assertEqual(near(["ab"], way, 2, 0, "abcd"), (2, numbers_of("ab")))
            self.assertEqual(near(["abcd"], way, 1, 0, "ab"), [-2])
            self.assertEqual(near(["ab"], way, 1, 0, "abcd"), [-2])

    def test_k_as_great_as_can_be(self):
        for way in range(3):
            self.assertEqual(len(ranking(WORDS, way, GREATEST, [0] * 32)), len(WORDS))
        self.assertEqual(len(ranking(WORDS, 3, GREATEST, "zzzz")), 4)


class NoDistance(unittest.TestCase):
    def test_words_of_other_lengths_are_left_out(self):
        words = ["a", "aaa", "aaaa", ""]
        for k in (0, 1, 2, 64, GREATEST):
            self.assertEqual(near(words, 3, k, 0, "aa"), [-2])
        self.assertEqual(text_ranking(words + ["zz"], 3, GREATEST, "aa"), [(2, "zz")])

    def test_they_don_t_count_as_before(self):
        words = ["", "a", "aaa", "ba", "bb"]
        self.assertEqual(near(words, 3, 9, 0, "aa"), (1, [98, 97]))
        self.assertEqual(near(words, 3, 9, 1, "aa"), (2, [98, 98]))
        self.assertEqual(near(words, 3, 9, 2, "aa"), [-2])


class Edges(unittest.TestCase):
    def test_the_word_without_bytes(self):
        for way in range(4):
            self.assertEqual(ask_with([""], [near_call(way, 0, 0, "")]), [[0]])
        for way in range(3):
            self.assertEqual(ask_with([""], [near_call(way, 9, 0, "abc")]), [[3]])
            self.assertEqual(ask_with(["abc"], [near_call(way, 9, 0, "")]), [[3, 97, 98, 99]])
        self.assertEqual(ask_with([""], [near_call(3, 9, 0, "a")]), [[-2]])

    def test_no_words(self):
        for way, k, i in itertools.product(range(4), (LEAST, 0, GREATEST), (0, 1, GREATEST)):
            for s in ("", "abc", [1] * 32):
                self.assertEqual(near([], way, k, i, s), [-2])

    def test_256_words_of_32_bytes(self):
        words = [[number] * 32 for number in range(255, -1, -1)]
        calls = [near_call(3, GREATEST, i, [200] * 32) for i in (0, 1, 128, 201, 255, 256)]
        nearest_first = [200] + [number for number in range(256) if number != 200]
        rightly = [[0] + [200] * 32] + [[32] + [nearest_first[i]] * 32 for i in (1, 128, 201, 255)] + [[-2]]
        self.assertEqual(ask_with(words, calls), rightly)

    def test_near_changes_nothing(self):
        call = near_call(1, 2, 1, "ab")
        answered = ask_with(["ab", "abc", "b"], [call, near_call(0, 0, 5, "q"), call, count_call(1, 2, "ab"), call])
        self.assertEqual(answered, [[1, 97, 98, 99], [-2], [1, 97, 98, 99], [3], [1, 97, 98, 99]])

    def test_words_that_come_later(self):
        calls = [add_call("b"), near_call(1, 9, 0, "a"), add_call("a"), near_call(1, 9, 0, "a"),
                 near_call(1, 9, 1, "a")]
        self.assertEqual(ask_all(calls), [[0], [1, 98], [0], [0, 97], [1, 98]])


class AgainstSearch(unittest.TestCase):
    def test_every_way(self):
        words = list(words_up_to(3, (1, 200)))
        mixed = sorted(words, key=lambda word: (sum(word) % 7, word[::-1]))
        for way in range(4):
            steps = made_in_one(way, 5, (1, 200))
            for s in words:
                found = distances_from(s, steps)
                rightly = sorted((found[word], bytes(word)) for word in words if word in found)
                for k in range(-1, 8):
                    expected = [(far, list(word)) for far, word in rightly if far <= k]
                    self.assertEqual(ranking(mixed, way, k, s), expected, (way, k, s))


if __name__ == "__main__":
    unittest.main()
