"""Promise 6: add."""

import unittest

from helper import GREATEST, add_call, ask_all, ask_with, count_call, near_call

MANY = [[number, 255 - number] for number in range(256)]
ANOTHER = [7, 7]


class Adding(unittest.TestCase):
    def added(self, *words):
        return [answer for answer, in ask_all([add_call(word) for word in words])]

    def test_a_new_word_and_one_that_was_already(self):
        self.assertEqual(self.added("ab"), [0])
        self.assertEqual(self.added("ab", "ab"), [0, 1])
        self.assertEqual(self.added("ab", "ba", "ab", "ba", "ab"), [0, 0, 1, 1, 1])

    def test_words_that_are_nearly_others_are_others(self):
        self.assertEqual(self.added("ab", "a", "abc", "b", "AB", "ba"), [0] * 6)
        self.assertEqual(self.added([1, 23], [12, 3], [1, 2, 3], [123]), [0] * 4)
        self.assertEqual(self.added([0], [0, 0], [0, 0, 0], [255], [255, 0]), [0] * 5)

    def test_the_word_without_bytes(self):
        self.assertEqual(self.added(""), [0])
        self.assertEqual(self.added("", "", [0], ""), [0, 1, 0, 1])
        self.assertEqual(ask_with([""], [count_call(0, 0, ""), near_call(0, 0, 0, "")]), [[1], [0]])

    def test_a_word_of_32_bytes(self):
        self.assertEqual(self.added([1] * 32, [1] * 31, [1] * 31 + [2], [1] * 32), [0, 0, 0, 1])
        self.assertEqual(ask_with([[255] * 32], [near_call(3, 0, 0, [255] * 32)]), [[0] + [255] * 32])

    def test_from_now_on(self):
        calls = [count_call(1, 9, "ab"), near_call(1, 9, 0, "ab"), add_call("abc"), count_call(1, 9, "ab"),
                 near_call(1, 9, 0, "ab"), add_call("ab"), count_call(1, 9, "ab"), near_call(1, 9, 0, "ab")]
        self.assertEqual(ask_all(calls), [[0], [-2], [0], [1], [1, 97, 98, 99], [0], [2], [0, 97, 98]])

    def test_a_word_that_was_already_is_there_once(self):
        calls = [add_call("ab"), add_call("ab"), count_call(0, 0, "ab"), near_call(0, 0, 0, "ab"),
                 near_call(0, 0, 1, "ab")]
        self.assertEqual(ask_all(calls), [[0], [1], [1], [0, 97, 98], [-2]])

    def test_no_other_call_adds_its_word(self):
        calls = [near_call(0, 5, 0, "ab"), count_call(0, 5, "ab"), add_call("ab"), near_call(0, 5, 0, "b"),
                 count_call(0, 5, "b"), add_call("b")]
        self.assertEqual(ask_all(calls), [[-2], [0], [0], [1, 97, 98], [1], [0]])


class Full(unittest.TestCase):
    def test_256_words_are_put_in(self):
        every = ask_with(MANY, [count_call(3, GREATEST, ANOTHER), count_call(3, 0, MANY[255])])
        self.assertEqual(every, [[256], [1]])

    def test_the_word_behind_them_is_not(self):
        calls = [add_call(ANOTHER), count_call(3, 0, ANOTHER), near_call(3, 0, 0, ANOTHER),
                 count_call(0, GREATEST, ANOTHER), near_call(0, GREATEST, 256, ANOTHER), add_call(ANOTHER)]
        self.assertEqual(ask_with(MANY, calls), [[-2], [0], [-2], [256], [-2], [-2]])

    def test_nor_the_word_without_bytes_nor_one_of_32(self):
        calls = [add_call(""), add_call([1] * 32), count_call(0, 0, ""), count_call(0, 0, [1] * 32)]
        self.assertEqual(ask_with(MANY, calls), [[-2], [-2], [0], [0]])

    def test_one_of_them_was_already(self):
        calls = [add_call(ANOTHER), add_call(MANY[0]), add_call(MANY[128]), add_call(MANY[255]), add_call(ANOTHER),
                 count_call(3, GREATEST, ANOTHER)]
        self.assertEqual(ask_with(MANY, calls), [[-2], [1], [1], [1], [-2], [256]])

    def test_the_last_that_has_room(self):
        calls = [add_call(MANY[3]), add_call(ANOTHER), add_call(ANOTHER), add_call(MANY[255]), add_call(MANY[254])]
        self.assertEqual(ask_with(MANY[:255], calls), [[1], [0], [1], [-2], [1]])

    def test_words_that_were_already_take_no_room(self):
        calls = [add_call(MANY[0])] * 20 + [add_call(ANOTHER), count_call(3, GREATEST, ANOTHER)]
        self.assertEqual(ask_with(MANY[:255], calls), [[1]] * 20 + [[0], [256]])


if __name__ == "__main__":
    unittest.main()
