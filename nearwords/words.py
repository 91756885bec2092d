"""What is asked of a call's ways, words and lengths before it is answered."""

LAST_WAY = 3
LONGEST = 32
REFUSED = -1


def no_such_way(way):
    return way < 0 or way > LAST_WAY


def too_long(word):
    return len(word) > LONGEST


def no_such_run(q):
    return q < 1 or q > LONGEST
