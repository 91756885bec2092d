"""Whether edits make one word of another, and none fewer do."""

from nearwords.distance import how_far

PUT_IN = 1
CUT_OUT = 2
SET = 3
CHANGE_ABOUT = 4

EDITS_OF_WAY = ((1, 2), (1, 2, 3), (1, 2, 3, 4), (3,))


def makes(way, s, t, edits):
    # Words at no distance are told by a number below 0, which is never how many edits there are.
    if len(edits) != how_far(way, s, t):
        return 0
    word = list(s)
    for number in edits:
        if not can_be_done(way, number, len(word)):
            return 0
        word = edited(word, number)
    return 1 if word == t else 0


def kind_of(number):
    return number // 65536


def place_of(number):
    return number // 256 % 256


def byte_of(number):
    return number % 256


def can_be_done(way, number, length):
    kind = kind_of(number)
    if kind not in EDITS_OF_WAY[way]:
        return False
    if kind in (CUT_OUT, CHANGE_ABOUT) and byte_of(number) != 0:
        return False
    return place_of(number) < places_for(kind, length)


def places_for(kind, length):
    """How many places, from 0 on, an edit of this kind may be at in a word of this length."""
    if kind == PUT_IN:
        return length + 1
    if kind == CHANGE_ABOUT:
        return length - 1
    return length


def edited(word, number):
    kind = kind_of(number)
    place = place_of(number)
    before = word[:place]
    if kind == PUT_IN:
        return before + [byte_of(number)] + word[place:]
    if kind == CUT_OUT:
        return before + word[place + 1:]
    if kind == SET:
        return before + [byte_of(number)] + word[place + 1:]
    return before + [word[place + 1], word[place]] + word[place + 2:]
