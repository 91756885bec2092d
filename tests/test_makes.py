"""Promise 2: makes."""

import unittest

from helper import (CHANGE_ABOUT, CUT_OUT, PUT_IN, SET, distances_from, edit, edits_from, made_in_one, makes,
                    words_up_to)


class AsFewAsCanBe(unittest.TestCase):
    def test_each_edit_in_each_of_its_ways(self):
        for way in (0, 1, 2):
            self.assertEqual(makes(way, "ac", "abc", [edit(PUT_IN, 1, "b")]), 1)
            self.assertEqual(makes(way, "abc", "ac", [edit(CUT_OUT, 1)]), 1)
        for way in (1, 2, 3):
            self.assertEqual(makes(way, "abc", "axc", [edit(SET, 1, "x")]), 1)
        self.assertEqual(makes(2, "abc", "acb", [edit(CHANGE_ABOUT, 1)]), 1)

    def test_places_are_those_of_the_word_as_it_is_then(self):
        edits = [edit(SET, 0, "s"), edit(SET, 4, "i"), edit(PUT_IN, 6, "g")]
        self.assertEqual(makes(1, "kitten", "sitting", edits), 1)
        self.assertEqual(makes(0, "abcd", "cd", [edit(CUT_OUT, 0), edit(CUT_OUT, 0)]), 1)
        self.assertEqual(makes(0, "abcd", "cd", [edit(CUT_OUT, 0), edit(CUT_OUT, 1)]), 0)
        self.assertEqual(makes(0, "abcd", "cd", [edit(CUT_OUT, 1), edit(CUT_OUT, 0)]), 1)

    def test_changed_about_with_another_put_between(self):
        self.assertEqual(makes(2, "ca", "abc", [edit(CHANGE_ABOUT, 0), edit(PUT_IN, 1, "b")]), 1)
        self.assertEqual(makes(2, "abc", "ca", [edit(CUT_OUT, 1), edit(CHANGE_ABOUT, 0)]), 1)

    def test_one_too_many(self):
        self.assertEqual(makes(1, "a", "b", [edit(CUT_OUT, 0), edit(PUT_IN, 0, "b")]), 0)
        self.assertEqual(makes(0, "a", "b", [edit(CUT_OUT, 0), edit(PUT_IN, 0, "b")]), 1)
        self.assertEqual(makes(2, "ab", "ba", [edit(SET, 0, "b"), edit(SET, 1, "a")]), 0)
        self.assertEqual(makes(1, "ab", "ba", [edit(SET, 0, "b"), edit(SET, 1, "a")]), 1)
        self.assertEqual(makes(3, "ab", "xb", [edit(SET, 0, "y"), edit(SET, 0, "x")]), 0)

    def test_an_edit_that_leaves_the_word_is_one_too_many(self):
        self.assertEqual(makes(3, "a", "a", [edit(SET, 0, "a")]), 0)
        self.assertEqual(makes(2, "aa", "aa", [edit(CHANGE_ABOUT, 0)]), 0)

    def test_as_few_but_another_word(self):
        self.assertEqual(makes(1, "abc", "axc", [edit(SET, 1, "y")]), 0)
        self.assertEqual(makes(1, "abc", "axc", [edit(SET, 0, "x")]), 0)
        self.assertEqual(makes(1, "abc", "axc", []), 0)


class NoEdits(unittest.TestCase):
    def test_no_edits_make_an_equal_word(self):
        for way in range(4):
            self.assertEqual(makes(way, "abc", "abc", []), 1)
            self.assertEqual(makes(way, "", "", []), 1)

    def test_no_edits_make_no_other_word(self):
        for way in range(4):
            self.assertEqual(makes(way, "abc", "abd", []), 0)
            self.assertEqual(makes(way, "abc", "ab", []), 0)


class EditsOfTheWay(unittest.TestCase):
    def test_an_edit_that_is_not_of_this_way(self):
        self.assertEqual(makes(0, "ab", "cb", [edit(SET, 0, "c")]), 0)
        self.assertEqual(makes(0, "ab", "ba", [edit(CHANGE_ABOUT, 0)]), 0)
        self.assertEqual(makes(1, "ab", "ba", [edit(CHANGE_ABOUT, 0)]), 0)
        self.assertEqual(makes(3, "ab", "ba", [edit(CHANGE_ABOUT, 0)]), 0)
        self.assertEqual(makes(3, "ab", "abc", [edit(PUT_IN, 2, "c")]), 0)
        self.assertEqual(makes(3, "ab", "a", [edit(CUT_OUT, 1)]), 0)

    def test_as_many_edits_but_one_is_not_of_this_way(self):
        self.assertEqual(makes(0, "ab", "ba", [edit(SET, 0, "b"), edit(SET, 1, "a")]), 0)
        self.assertEqual(makes(1, "abx", "bay", [edit(CHANGE_ABOUT, 0), edit(SET, 2, "x"), edit(SET, 2, "y")]), 0)
        self.assertEqual(makes(3, "ab", "ba", [edit(CUT_OUT, 0), edit(PUT_IN, 1, "a")]), 0)


class Places(unittest.TestCase):
    def test_put_in_behind_the_last_byte(self):
        self.assertEqual(makes(0, "ab", "abc", [edit(PUT_IN, 2, "c")]), 1)
        self.assertEqual(makes(0, "", "c", [edit(PUT_IN, 0, "c")]), 1)
        self.assertEqual(makes(0, "ab", "abc", [edit(PUT_IN, 3, "c")]), 0)
        self.assertEqual(makes(0, "", "c", [edit(PUT_IN, 1, "c")]), 0)
        self.assertEqual(makes(0, "ab", "abc", [edit(PUT_IN, 255, "c")]), 0)

    def test_cut_out_where_there_is_no_byte(self):
        self.assertEqual(makes(0, "ab", "a", [edit(CUT_OUT, 1)]), 1)
        self.assertEqual(makes(0, "ab", "a", [edit(CUT_OUT, 2)]), 0)
        self.assertEqual(makes(0, "ab", "a", [edit(CUT_OUT, 255)]), 0)

    def test_set_where_there_is_no_byte(self):
        self.assertEqual(makes(1, "ab", "ac", [edit(SET, 1, "c")]), 1)
        self.assertEqual(makes(1, "ab", "ac", [edit(SET, 2, "c")]), 0)
        # To set the byte behind the last one is not to put it in.
        self.assertEqual(makes(1, "ab", "abc", [edit(SET, 2, "c")]), 0)

    def test_change_about_where_there_is_no_next_byte(self):
        self.assertEqual(makes(2, "abc", "acb", [edit(CHANGE_ABOUT, 1)]), 1)
        self.assertEqual(makes(2, "abc", "acb", [edit(CHANGE_ABOUT, 2)]), 0)
        self.assertEqual(makes(2, "abc", "acb", [edit(CHANGE_ABOUT, 3)]), 0)
        self.assertEqual(makes(2, "", "a", [edit(CHANGE_ABOUT, 0)]), 0)
        self.assertEqual(makes(2, "a", "b", [edit(CHANGE_ABOUT, 0)]), 0)

    def test_places_far_behind_the_word(self):
        for more in (8, 16, 32, 64, 128, 192):
            self.assertEqual(makes(2, "a", "ab", [edit(PUT_IN, 1 + more, "b")]), 0)
            self.assertEqual(makes(2, "ab", "a", [edit(CUT_OUT, 1 + more)]), 0)
            self.assertEqual(makes(2, "ab", "ac", [edit(SET, 1 + more, "c")]), 0)
            self.assertEqual(makes(2, "ab", "ba", [edit(CHANGE_ABOUT, more)]), 0)

    def test_a_place_that_there_is_only_then(self):
        self.assertEqual(makes(0, "", "ab", [edit(PUT_IN, 0, "a"), edit(PUT_IN, 1, "b")]), 1)
        self.assertEqual(makes(0, "", "ab", [edit(PUT_IN, 1, "b"), edit(PUT_IN, 0, "a")]), 0)
        self.assertEqual(makes(0, "ab", "", [edit(CUT_OUT, 1), edit(CUT_OUT, 0)]), 1)
        self.assertEqual(makes(0, "ab", "", [edit(CUT_OUT, 0), edit(CUT_OUT, 1)]), 0)


class NumbersThatAreNoEdits(unittest.TestCase):
    def test_no_such_kind(self):
        for number in (0, 98, 65535, 5 * 65536, 6 * 65536 + 98, 257 * 65536 + 98, 2147483647):
            for way in range(4):
                self.assertEqual(makes(way, "a", "b", [number]), 0)
                self.assertEqual(makes(way, "a", "ab", [number]), 0)
                self.assertEqual(makes(way, "ab", "b", [number]), 0)
                self.assertEqual(makes(way, "ab", "ba", [number]), 0)

    def test_an_edit_with_another_kind_added(self):
        for more in (4, 5, 8, 16, 32, 64, 128, 256, 1024, 16384, 32760):
            for s, t, number in (("a", "ab", edit(PUT_IN, 1, "b")), ("ab", "a", edit(CUT_OUT, 1)),
                                 ("ab", "ac", edit(SET, 1, "c")), ("ab", "ba", edit(CHANGE_ABOUT, 0))):
                self.assertEqual(makes(2, s, t, [number]), 1)
                self.assertEqual(makes(2, s, t, [number + more * 65536]), 0)

    def test_a_byte_where_none_is_put_in_or_set(self):
        self.assertEqual(makes(0, "ab", "b", [edit(CUT_OUT, 0, 0)]), 1)
        self.assertEqual(makes(2, "ab", "ba", [edit(CHANGE_ABOUT, 0, 0)]), 1)
        for byte in (1, 97, 255):
            self.assertEqual(makes(0, "ab", "b", [edit(CUT_OUT, 0, byte)]), 0)
            self.assertEqual(makes(2, "ab", "ba", [edit(CHANGE_ABOUT, 0, byte)]), 0)

    def test_one_among_edits(self):
        self.assertEqual(makes(3, "abc", "xyc", [edit(SET, 0, "x"), edit(SET, 1, "y")]), 1)
        self.assertEqual(makes(3, "abc", "xyc", [edit(SET, 0, "x"), 2147483647]), 0)
        self.assertEqual(makes(3, "abc", "xyc", [0, edit(SET, 1, "y")]), 0)
        self.assertEqual(makes(3, "abc", "xyc", [edit(SET, 0, "x"), edit(SET, 1, "y"), 0]), 0)

    def test_bytes_0_and_255_are_put_in_and_set(self):
        self.assertEqual(makes(1, [], [255], [edit(PUT_IN, 0, 255)]), 1)
        self.assertEqual(makes(1, [], [0], [edit(PUT_IN, 0, 0)]), 1)
        self.assertEqual(makes(3, [0], [255], [edit(SET, 0, 255)]), 1)
        self.assertEqual(makes(3, [255], [0], [edit(SET, 0, 0)]), 1)


class ManyEdits(unittest.TestCase):
    def test_64_edits_with_a_word_of_64_bytes_on_the_way(self):
        put_in = [edit(PUT_IN, 32 + place, 2) for place in range(32)]
        cut_out = [edit(CUT_OUT, 0)] * 32
        self.assertEqual(makes(0, [1] * 32, [2] * 32, put_in + cut_out), 1)
        self.assertEqual(makes(0, [1] * 32, [2] * 32, cut_out + put_in), 0)
        self.assertEqual(makes(0, [1] * 32, [2] * 32, put_in + cut_out[1:]), 0)
        self.assertEqual(makes(1, [1] * 32, [2] * 32, put_in + cut_out), 0)

    def test_the_place_behind_the_last_byte_of_a_long_word(self):
        put_in = [edit(PUT_IN, 32 + place, 2) for place in range(31)]
        cut_out = [edit(CUT_OUT, 0)] * 32
        self.assertEqual(makes(0, [1] * 32, [2] * 32, put_in + [edit(PUT_IN, 63, 2)] + cut_out), 1)
        self.assertEqual(makes(0, [1] * 32, [2] * 32, put_in + [edit(PUT_IN, 64, 2)] + cut_out), 0)

    def test_80_edits_are_never_as_few_as_can_be(self):
        there_and_back = [edit(PUT_IN, 0, 9)] * 40 + [edit(CUT_OUT, 0)] * 40
        all_put_in = [edit(PUT_IN, place, 9) for place in range(80)]
        for way in range(4):
            self.assertEqual(makes(way, [1] * 32, [1] * 32, there_and_back), 0)
            self.assertEqual(makes(way, [1] * 32, [9] * 32, all_put_in), 0)
            self.assertEqual(makes(way, "", "", [0] * 80), 0)

    def test_way_3_with_different_lengths(self):
        self.assertEqual(makes(3, "ab", "abc", []), 0)
        self.assertEqual(makes(3, "ab", "abc", [edit(SET, 0, "a")] * 2), 0)


class AgainstSearch(unittest.TestCase):
    letters = (0, 1)

    def compare(self, way, s, t, known, found):
        for number in known:
            rightly = 1 if known[number] == t and found.get(t) == 1 else 0
            self.assertEqual(makes(way, s, t, [number]), rightly, (way, s, t, number))

    def test_every_number_of_one_edit(self):
        numbers = [edit(kind, place, byte) for kind in range(6) for place in range(5) for byte in self.letters]
        words = list(words_up_to(3, self.letters))
        for way in range(4):
            steps = made_in_one(way, 4, self.letters)
            for s in words:
                known = dict.fromkeys(numbers)
                known.update(edits_from(way, s, self.letters))
                found = distances_from(s, steps)
                for t in words:
                    self.compare(way, s, t, known, found)

    def test_every_two_edits_that_can_be_done(self):
        words = list(words_up_to(3, self.letters))
        for way in range(4):
            steps = made_in_one(way, 4, self.letters)
            for s in words:
                found = distances_from(s, steps)
                for first, between in edits_from(way, s, self.letters):
                    for second, t in edits_from(way, between, self.letters):
                        if len(t) <= 4:
                            rightly = 1 if found[t] == 2 else 0
                            self.assertEqual(makes(way, s, t, [first, second]), rightly, (way, s, t, first, second))


if __name__ == "__main__":
    unittest.main()
