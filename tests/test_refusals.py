"""The refusal -1, which is looked at first."""

import unittest

from helper import SET, common, edit, far, makes, shares

NO_WAYS = (-2147483648, -3, -2, -1, 4, 5, 256, 2147483647)
TOO_LONG = range(33, 41)
LONGEST = [1] * 32


class Ways(unittest.TestCase):
    def test_far(self):
        for way in NO_WAYS:
            self.assertEqual(far(way, "a", "b"), -1)
            self.assertEqual(far(way, "", ""), -1)

    def test_makes(self):
        for way in NO_WAYS:
            self.assertEqual(makes(way, "a", "b", [edit(SET, 0, "b")]), -1)
            self.assertEqual(makes(way, "", "", []), -1)

    def test_ways_0_to_3_are_taken(self):
        for way in range(4):
            self.assertEqual(far(way, "a", "a"), 0)
            self.assertEqual(makes(way, "a", "a", []), 1)


class LongWords(unittest.TestCase):
    def test_far(self):
        for size in TOO_LONG:
            for way in range(4):
                self.assertEqual(far(way, [1] * size, LONGEST), -1)
                self.assertEqual(far(way, LONGEST, [1] * size), -1)
                self.assertEqual(far(way, [1] * size, [1] * size), -1)

    def test_makes(self):
        for size in TOO_LONG:
            for way in range(4):
                self.assertEqual(makes(way, [1] * size, LONGEST, []), -1)
                self.assertEqual(makes(way, LONGEST, [1] * size, []), -1)
                self.assertEqual(makes(way, [1] * size, [1] * size, []), -1)

    def test_common(self):
        for size in TOO_LONG:
            self.assertEqual(common([1] * size, LONGEST), -1)
            self.assertEqual(common(LONGEST, [1] * size), -1)
            self.assertEqual(common([1] * size, []), -1)

    def test_shares(self):
        for size in TOO_LONG:
            self.assertEqual(shares([1] * size, LONGEST, LONGEST), -1)
            self.assertEqual(shares(LONGEST, [1] * size, LONGEST), -1)
            self.assertEqual(shares(LONGEST, LONGEST, [1] * size), -1)
            self.assertEqual(shares([], [], [1] * size), -1)

    def test_words_of_32_bytes_are_taken(self):
        for way in range(4):
            self.assertEqual(far(way, LONGEST, LONGEST), 0)
            self.assertEqual(makes(way, LONGEST, LONGEST, []), 1)
        self.assertEqual(common(LONGEST, LONGEST), 32)
        self.assertEqual(shares(LONGEST, LONGEST, LONGEST), 1)


class LookedAtFirst(unittest.TestCase):
    def test_ahead_of_no_distance(self):
        self.assertEqual(far(3, [1] * 33, [1] * 32), -1)
        self.assertEqual(far(3, [1] * 32, [1] * 33), -1)
        self.assertEqual(far(3, [1] * 40, []), -1)
        self.assertEqual(far(4, "a", "ab"), -1)

    def test_ahead_of_wrong_edits(self):
        self.assertEqual(makes(3, [1] * 33, "a", [0]), -1)
        self.assertEqual(makes(0, "a", [1] * 33, [2147483647] * 80), -1)
        self.assertEqual(makes(-1, "a", "ab", [0] * 80), -1)

    def test_wrong_edits_are_no_refusal(self):
        self.assertEqual(makes(0, "a", "b", [2147483647] * 80), 0)


if __name__ == "__main__":
    unittest.main()
