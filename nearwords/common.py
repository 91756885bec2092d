"""What two words have in common: bytes in the same order, perhaps with others between."""

from nearwords.distance import how_far

PUT_IN_AND_CUT_OUT = 0


def common_length(s, t):
    # Where bytes are put in and cut out alone, the bytes that stay are in common, and every other is one edit.
    return (len(s) + len(t) - how_far(PUT_IN_AND_CUT_OUT, s, t)) // 2


def shares(s, t, c):
    if is_within(c, s) and is_within(c, t) and len(c) == common_length(s, t):
        return 1
    return 0


def is_within(c, word):
    found = 0
    for byte in word:
        if found < len(c) and c[found] == byte:
            found += 1
    return found == len(c)
