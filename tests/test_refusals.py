"""The refusal -1, which is looked at first."""

import unittest

from helper import (GREATEST, LEAST, SET, add_call, ask_all, ask_with, common, count, count_call, edit, far, grams,
                    makes, near, near_call, shares)

NO_WAYS = (-2147483648, -3, -2, -1, 4, 5, 256, 2147483647)
NO_RUNS = (LEAST, -33, -2, -1, 0, 33, 34, 40, 256, GREATEST)
TOO_LONG = range(33, 41)
LONGEST = [1] * 32


class Ways(unittest.TestCase):
    def test_far(self):
        for way in NO_WAYS:
            self.assertEqual(far(way, "a", "b"), -1)
            self.assertEqual(far(way, "", ""), -1)

    def test_makes(self):
        for way in NO_WAYS:
            self.assertEqual(makes(way, "a", "b", [edit(SET, 0, "b")]), -1)
            self.assertEqual(makes(way, "", "", []), -1)

    def test_near(self):
        for way in NO_WAYS:
            self.assertEqual(near(["a"], way, 0, 0, "a"), [-1])
            self.assertEqual(near([], way, GREATEST, 0, ""), [-1])

    def test_count(self):
        for way in NO_WAYS:
            self.assertEqual(count(["a"], way, 0, "a"), -1)
            self.assertEqual(count([], way, GREATEST, ""), -1)

    def test_ways_0_to_3_are_taken(self):
        for way in range(4):
            self.assertEqual(far(way, "a", "a"), 0)
            self.assertEqual(makes(way, "a", "a", []), 1)
            self.assertEqual(near(["a"], way, 0, 0, "a"), (0, [97]))
            self.assertEqual(count(["a"], way, 0, "a"), 1)


class Runs(unittest.TestCase):
    def test_grams(self):
        for q in NO_RUNS:
            self.assertEqual(grams(q, "abc", "abc"), -1)
            self.assertEqual(grams(q, "", ""), -1)
            self.assertEqual(grams(q, LONGEST, LONGEST), -1)

    def test_runs_of_1_to_32_bytes_are_taken(self):
        for q in range(1, 33):
            self.assertEqual(grams(q, LONGEST, LONGEST), 33 - q)


class WordsBefore(unittest.TestCase):
    def test_near(self):
        for i in (LEAST, -256, -3, -2, -1):
            self.assertEqual(near(["a", "b"], 0, 9, i, "a"), [-1])
            self.assertEqual(near([], 0, 9, i, "a"), [-1])

    def test_i_of_0_and_above_is_taken(self):
        self.assertEqual(near(["a"], 0, 9, 0, "a"), (0, [97]))
        self.assertEqual(near(["a"], 0, 9, GREATEST, "a"), [-2])


class LongWords(unittest.TestCase):
    def test_far(self):
        for size in TOO_LONG:
            for way in range(4):
                self.assertEqual(far(way, [1] * size, LONGEST), -1)
                self.assertEqual(far(way, LONGEST, [1] * size), -1)
                self.assertEqual(far(way, [1] * size, [1] * size), -1)

    def test_makes(self):
        for size in TOO_LONG:
            for way in range(4):
                self.assertEqual(makes(way, [1] * size, LONGEST, []), -1)
                self.assertEqual(makes(way, LONGEST, [1] * size, []), -1)
                self.assertEqual(makes(way, [1] * size, [1] * size, []), -1)

    def test_common(self):
        for size in TOO_LONG:
            self.assertEqual(common([1] * size, LONGEST), -1)
            self.assertEqual(common(LONGEST, [1] * size), -1)
            self.assertEqual(common([1] * size, []), -1)

    def test_shares(self):
        for size in TOO_LONG:
            self.assertEqual(shares([1] * size, LONGEST, LONGEST), -1)
            self.assertEqual(shares(LONGEST, [1] * size, LONGEST), -1)
            self.assertEqual(shares(LONGEST, LONGEST, [1] * size), -1)
            self.assertEqual(shares([], [], [1] * size), -1)

    def test_grams(self):
        for size in TOO_LONG:
            self.assertEqual(grams(1, [1] * size, LONGEST), -1)
            self.assertEqual(grams(32, LONGEST, [1] * size), -1)
            self.assertEqual(grams(1, [1] * size, []), -1)
            self.assertEqual(grams(32, [1] * size, [1] * size), -1)

    def test_add(self):
        for size in TOO_LONG:
            self.assertEqual(ask_all([add_call([1] * size)]), [[-1]])
            self.assertEqual(ask_with([LONGEST], [add_call([1] * size)]), [[-1]])

    def test_near(self):
        for size in TOO_LONG:
            for way in range(4):
                self.assertEqual(near([LONGEST], way, GREATEST, 0, [1] * size), [-1])
                self.assertEqual(near([], way, 0, 0, [1] * size), [-1])

    def test_count(self):
        for size in TOO_LONG:
            for way in range(4):
                self.assertEqual(count([LONGEST], way, GREATEST, [1] * size), -1)
                self.assertEqual(count([], way, 0, [1] * size), -1)

    def test_words_of_32_bytes_are_taken(self):
        for way in range(4):
            self.assertEqual(far(way, LONGEST, LONGEST), 0)
            self.assertEqual(makes(way, LONGEST, LONGEST, []), 1)
        self.assertEqual(common(LONGEST, LONGEST), 32)
        self.assertEqual(shares(LONGEST, LONGEST, LONGEST), 1)
        self.assertEqual(grams(1, LONGEST, LONGEST), 32)
        for way in range(4):
            self.assertEqual(near([LONGEST], way, 0, 0, LONGEST), (0, LONGEST))
            self.assertEqual(count([LONGEST], way, 0, LONGEST), 1)


class LookedAtFirst(unittest.TestCase):
    def test_ahead_of_no_distance(self):
        self.assertEqual(far(3, [1] * 33, [1] * 32), -1)
        self.assertEqual(far(3, [1] * 32, [1] * 33), -1)
        self.assertEqual(far(3, [1] * 40, []), -1)
        self.assertEqual(far(4, "a", "ab"), -1)

    def test_ahead_of_wrong_edits(self):
        self.assertEqual(makes(3, [1] * 33, "a", [0]), -1)
        self.assertEqual(makes(0, "a", [1] * 33, [2147483647] * 80), -1)
        self.assertEqual(makes(-1, "a", "ab", [0] * 80), -1)

    def test_ahead_of_none_so_near(self):
        self.assertEqual(near(["a"], 0, -1, -1, "a"), [-1])
        self.assertEqual(near(["a"], 4, -1, 0, "a"), [-1])
        self.assertEqual(near(["a"], 0, LEAST, 0, [1] * 33), [-1])
        self.assertEqual(near([], -1, -1, -1, [1] * 40), [-1])
        self.assertEqual(near([LONGEST], 3, GREATEST, 7, [1] * 33), [-1])
        self.assertEqual(count(["a"], 4, -1, "a"), -1)
        self.assertEqual(count(["a"], 3, -1, [1] * 33), -1)

    def test_ahead_of_a_full_dictionary(self):
        calls = [add_call([1] * 33), add_call([1] * 40), add_call(LONGEST), count_call(3, GREATEST, "a")]
        self.assertEqual(ask_with([[number] for number in range(256)], calls), [[-1], [-1], [-2], [256]])

    def test_ahead_of_runs_longer_than_a_word(self):
        self.assertEqual(grams(33, "", "abc"), -1)
        self.assertEqual(grams(32, "", [1] * 33), -1)

    def test_k_is_never_refused(self):
        for k in (LEAST, -1, 0, GREATEST):
            self.assertEqual(near([], 0, k, 0, "a"), [-2])
            self.assertEqual(count([], 0, k, "a"), 0)

    def test_wrong_edits_are_no_refusal(self):
        self.assertEqual(makes(0, "a", "b", [2147483647] * 80), 0)


class NothingChanges(unittest.TestCase):
    refused = [add_call([1] * 33), add_call([97] * 40), near_call(4, 0, 0, "zz"), near_call(0, 0, -1, "zz"),
               near_call(0, 0, 0, [1] * 33), count_call(-1, 0, "zz"), count_call(0, 0, [1] * 33)]

    def test_the_dictionary_stays_as_it_was(self):
        asked = [count_call(0, GREATEST, "a")] + [near_call(0, GREATEST, i, "a") for i in range(3)]
        answered = ask_with(["b", "ab"], asked + self.refused + asked)
        before = [[2], [1, 97, 98], [2, 98], [-2]]
        self.assertEqual(answered, before + [[-1]] * len(self.refused) + before)

    def test_a_refused_word_takes_no_room(self):
        words = [[number] for number in range(255)]
        answered = ask_with(words, [add_call([1] * 33)] * 10 + [add_call("ab"), add_call([1] * 32)])
        self.assertEqual(answered, [[-1]] * 10 + [[0], [-2]])

    def test_no_part_of_a_refused_word_is_put_in(self):
        answered = ask_all([add_call([1] * 33), add_call(LONGEST), add_call([1] * 33), count_call(0, GREATEST, "a")])
        self.assertEqual(answered, [[-1], [0], [-1], [1]])


if __name__ == "__main__":
    unittest.main()
