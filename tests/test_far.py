"""Promise 1: far."""

import unittest

from helper import distances_from, far, made_in_one, words_up_to


class EachWay(unittest.TestCase):
    def test_way_0_has_no_setting(self):
        self.assertEqual(far(0, "kitten", "sitting"), 5)
        self.assertEqual(far(0, "a", "b"), 2)
        self.assertEqual(far(0, "ab", "ba"), 2)

    def test_way_1_has_setting_and_no_changing_about(self):
        self.assertEqual(far(1, "kitten", "sitting"), 3)
        self.assertEqual(far(1, "a", "b"), 1)
        self.assertEqual(far(1, "ab", "ba"), 2)
        self.assertEqual(far(1, "saturday", "sunday"), 3)

    def test_way_2_has_changing_about(self):
        self.assertEqual(far(2, "kitten", "sitting"), 3)
        self.assertEqual(far(2, "ab", "ba"), 1)
        self.assertEqual(far(2, "abcd", "badc"), 2)
        self.assertEqual(far(2, "abc", "cba"), 2)

    def test_way_3_has_setting_alone(self):
        self.assertEqual(far(3, "kitten", "sittin"), 2)
        self.assertEqual(far(3, "ab", "ba"), 2)
        self.assertEqual(far(3, "abcdef", "bcdefa"), 6)

    def test_ways_differ_on_one_pair(self):
        self.assertEqual([far(way, "abcde", "badcx") for way in range(4)], [6, 4, 3, 5])


class ChangedAboutWithOthersBetween(unittest.TestCase):
    def test_others_between_in_the_second_word(self):
        self.assertEqual(far(2, "ca", "abc"), 2)
        self.assertEqual(far(2, "ca", "abbc"), 3)
        self.assertEqual(far(2, "xcay", "xabcy"), 2)

    def test_others_between_in_the_first_word(self):
        self.assertEqual(far(2, "abc", "ca"), 2)
        self.assertEqual(far(2, "abbc", "ca"), 3)
        self.assertEqual(far(2, "pabcq", "pcaq"), 2)

    def test_others_between_in_both_words(self):
        self.assertEqual(far(2, "axb", "bya"), 3)
        self.assertEqual(far(2, "axxb", "bya"), 4)

    def test_the_last_such_pair_is_taken(self):
        self.assertEqual(far(2, "aab", "aba"), 1)
        self.assertEqual(far(2, "caca", "abcabc"), 4)
        self.assertEqual(far(2, "xaxxab", "xaxxba"), 1)


class Edges(unittest.TestCase):
    def test_equal_words(self):
        for way in range(4):
            self.assertEqual(far(way, "banana", "banana"), 0)
            self.assertEqual(far(way, [0, 255] * 16, [0, 255] * 16), 0)

    def test_words_without_bytes(self):
        for way in range(4):
            self.assertEqual(far(way, "", ""), 0)
        for way in range(3):
            self.assertEqual(far(way, "", "abc"), 3)
            self.assertEqual(far(way, "abc", ""), 3)
            self.assertEqual(far(way, "", [7] * 32), 32)

    def test_words_of_32_bytes(self):
        self.assertEqual([far(way, [1] * 32, [2] * 32) for way in range(4)], [64, 32, 32, 32])
        self.assertEqual([far(way, [1, 2] * 16, [2, 1] * 16) for way in range(4)], [2, 2, 2, 32])
        upwards = list(range(32))
        pairs_changed = [place ^ 1 for place in upwards]
        self.assertEqual([far(way, upwards, pairs_changed) for way in range(4)], [32, 17, 16, 32])

    def test_bytes_0_and_255(self):
        self.assertEqual([far(way, [0, 255], [255, 0]) for way in range(4)], [2, 2, 1, 2])
        self.assertEqual(far(1, [0], []), 1)

    def test_way_3_with_different_lengths(self):
        self.assertEqual(far(3, "abc", "abcd"), -2)
        self.assertEqual(far(3, "abcd", "abc"), -2)
        self.assertEqual(far(3, "", "a"), -2)
        self.assertEqual(far(3, [1] * 32, [1] * 31), -2)


class AgainstSearch(unittest.TestCase):
    def compare(self, way, length, longest_on_the_way, letters):
        steps = made_in_one(way, longest_on_the_way, letters)
        words = list(words_up_to(length, letters))
        for s in words:
            found = distances_from(s, steps)
            for t in words:
                self.assertEqual(far(way, s, t), found.get(t, -2), (way, s, t))

    def test_every_way_with_two_letters(self):
        for way in range(4):
            self.compare(way, 5, 7, (0, 1))

    def test_every_way_with_three_letters(self):
        for way in range(4):
            self.compare(way, 4, 5, (0, 1, 2))


if __name__ == "__main__":
    unittest.main()
