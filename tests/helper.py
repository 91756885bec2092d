"""Builds calls, asks them one by one, and finds by search what the program reckons."""

import itertools

from nearwords.desk import answers

PUT_IN, CUT_OUT, SET, CHANGE_ABOUT = 1, 2, 3, 4
KINDS_OF_WAY = {
    0: (PUT_IN, CUT_OUT),
    1: (PUT_IN, CUT_OUT, SET),
    2: (PUT_IN, CUT_OUT, SET, CHANGE_ABOUT),
    3: (SET,),
}


def row(word):
    """A text or a row of numbers, with how many it has before it."""
    numbers = [ord(sign) for sign in word] if isinstance(word, str) else list(word)
    return [len(numbers)] + numbers


def far_call(way, s, t):
    return [0, way] + row(s) + row(t)


def makes_call(way, s, t, edits):
    return [1, way] + row(s) + row(t) + row(edits)


def common_call(s, t):
    return [2] + row(s) + row(t)


def shares_call(s, t, c):
    return [3] + row(s) + row(t) + row(c)


def ask(call):
    """The one number that is answered to one call."""
    given = answers(call)
    if len(given) != 2 or given[0] != 1:
        raise AssertionError(f"not one number: {given}")
    return given[1]


def far(way, s, t):
    return ask(far_call(way, s, t))


def makes(way, s, t, edits):
    return ask(makes_call(way, s, t, edits))


def common(s, t):
    return ask(common_call(s, t))


def shares(s, t, c):
    return ask(shares_call(s, t, c))


def edit(kind, place, byte=0):
    byte = ord(byte) if isinstance(byte, str) else byte
    return kind * 65536 + place * 256 + byte


def words_up_to(length, letters):
    for size in range(length + 1):
        yield from itertools.product(letters, repeat=size)


def edits_from(way, word, letters):
    """Each edit of the way that can be done in the word, with the word that it makes."""
    kinds = KINDS_OF_WAY[way]
    size = len(word)
    if PUT_IN in kinds:
        for place, byte in itertools.product(range(size + 1), letters):
            yield edit(PUT_IN, place, byte), word[:place] + (byte,) + word[place:]
    if CUT_OUT in kinds:
        for place in range(size):
            yield edit(CUT_OUT, place), word[:place] + word[place + 1:]
    if SET in kinds:
        for place, byte in itertools.product(range(size), letters):
            yield edit(SET, place, byte), word[:place] + (byte,) + word[place + 1:]
    if CHANGE_ABOUT in kinds:
        for place in range(size - 1):
            pair = (word[place + 1], word[place])
            yield edit(CHANGE_ABOUT, place), word[:place] + pair + word[place + 2:]


def made_in_one(way, longest, letters):
    """By word: the words of no more than the longest length that one edit makes of it."""
    steps = {}
    for word in words_up_to(longest, letters):
        made = {after for number, after in edits_from(way, word, letters)}
        steps[word] = [after for after in made if len(after) <= longest]
    return steps


def distances_from(start, steps):
    """By word: the fewest edits that make it of start, found by search."""
    found = {start: 0}
    newest = [start]
    while newest:
        coming = []
        for word in newest:
            for after in steps[word]:
                if after not in found:
                    found[after] = found[word] + 1
                    coming.append(after)
        newest = coming
    return found


def rows_within(word):
    """Every row of bytes that is in the word in this order, perhaps with others between."""
    return {kept for size in range(len(word) + 1) for kept in itertools.combinations(word, size)}
