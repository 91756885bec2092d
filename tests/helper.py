"""Builds calls, asks them one by one, and finds by search what the program reckons."""

import itertools

from nearwords.desk import answers

PUT_IN, CUT_OUT, SET, CHANGE_ABOUT = 1, 2, 3, 4
KINDS_OF_WAY = {
    0: (PUT_IN, CUT_OUT),
    1: (PUT_IN, CUT_OUT, SET),
    2: (PUT_IN, CUT_OUT, SET, CHANGE_ABOUT),
    3: (SET,),
}
GREATEST = 2147483647
LEAST = -2147483648


def numbers_of(word):
    return [ord(sign) for sign in word] if isinstance(word, str) else list(word)


def row(word):
    """A text or a row of numbers, with how many it has before it."""
    numbers = numbers_of(word)
    return [len(numbers)] + numbers


def joined(lists):
    return list(itertools.chain.from_iterable(lists))


def far_call(way, s, t):
    return [0, way] + row(s) + row(t)


def makes_call(way, s, t, edits):
    return [1, way] + row(s) + row(t) + row(edits)


def common_call(s, t):
    return [2] + row(s) + row(t)


def shares_call(s, t, c):
    return [3] + row(s) + row(t) + row(c)


def grams_call(q, s, t):
    return [4, q] + row(s) + row(t)


def add_call(s):
    return [5] + row(s)


def near_call(way, k, i, s):
    return [6, way, k, i] + row(s)


def count_call(way, k, s):
    return [7, way, k] + row(s)


def ask_all(calls):
    """What is answered to each of the calls, which are asked in one list."""
    given = answers(joined(calls))
    answered = []
    while given:
        size = given.pop(0)
        answered.append(given[:size])
        given = given[size:]
    if len(answered) != len(calls):
        raise AssertionError(f"not one answer for each call: {answered}")
    return answered


def ask_with(words, calls):
    """What is answered to each of the calls once the words are in the dictionary, which has no others."""
    answered = ask_all([add_call(word) for word in words] + list(calls))
    if answered[:len(words)] != [[0]] * len(words):
        raise AssertionError(f"not all were added: {answered[:len(words)]}")
    return answered[len(words):]


def ask(call):
    """The one number that is answered to one call."""
    given = answers(call)
    if len(given) != 2 or given[0] != 1:
        raise AssertionError(f"not one number: {given}")
    return given[1]


def far(way, s, t):
    return ask(far_call(way, s, t))


def makes(way, s, t, edits):
    return ask(makes_call(way, s, t, edits))


def common(s, t):
    return ask(common_call(s, t))


def shares(s, t, c):
    return ask(shares_call(s, t, c))


def grams(q, s, t):
    return ask(grams_call(q, s, t))


def near(words, way, k, i, s):
    """How far the one with i before it is, and the word; or what is answered in its place."""
    answered = ask_with(words, [near_call(way, k, i, s)])[0]
    if answered[0] < 0:
        return answered
    return answered[0], answered[1:]


def ranking(words, way, k, s):
    """Every word that near finds, with how far it is, in near's order; what comes behind the last one is left out."""
    answered = ask_with(words, [near_call(way, k, i, s) for i in range(len(words) + 1)])
    found = [answer for answer in answered if answer != [-2]]
    if answered != found + [[-2]] * (len(answered) - len(found)):
        raise AssertionError(f"none, and then another: {answered}")
    return [(answer[0], answer[1:]) for answer in found]


def text_ranking(words, way, k, s):
    return [(far, "".join(map(chr, word))) for far, word in ranking(words, way, k, s)]


def count(words, way, k, s):
    answered = ask_with(words, [count_call(way, k, s)])[0]
    if len(answered) != 1:
        raise AssertionError(f"not one number: {answered}")
    return answered[0]


def edit(kind, place, byte=0):
    byte = ord(byte) if isinstance(byte, str) else byte
    return kind * 65536 + place * 256 + byte


def words_up_to(length, letters):
    for size in range(length + 1):
        yield from itertools.product(letters, repeat=size)


def edits_from(way, word, letters):
    """Each edit of the way that can be done in the word, with the word that it makes."""
    kinds = KINDS_OF_WAY[way]
    size = len(word)
    if PUT_IN in kinds:
        for place, byte in itertools.product(range(size + 1), letters):
            yield edit(PUT_IN, place, byte), word[:place] + (byte,) + word[place:]
    if CUT_OUT in kinds:
        for place in range(size):
            yield edit(CUT_OUT, place), word[:place] + word[place + 1:]
    if SET in kinds:
        for place, byte in itertools.product(range(size), letters):
            yield edit(SET, place, byte), word[:place] + (byte,) + word[place + 1:]
    if CHANGE_ABOUT in kinds:
        for place in range(size - 1):
            pair = (word[place + 1], word[place])
            yield edit(CHANGE_ABOUT, place), word[:place] + pair + word[place + 2:]


def made_in_one(way, longest, letters):
    """By word: the words of no more than the longest length that one edit makes of it."""
    steps = {}
    for word in words_up_to(longest, letters):
        made = {after for number, after in edits_from(way, word, letters)}
        steps[word] = [after for after in made if len(after) <= longest]
    return steps


def distances_from(start, steps):
    """By word: the fewest edits that make it of start, found by search."""
    found = {start: 0}
    newest = [start]
    while newest:
        coming = []
        for word in newest:
            for after in steps[word]:
                if after not in found:
                    found[after] = found[word] + 1
                    coming.append(after)
        newest = coming
    return found


def rows_within(word):
    """Every row of bytes that is in the word in this order, perhaps with others between."""
    return {kept for size in range(len(word) + 1) for kept in itertools.combinations(word, size)}
