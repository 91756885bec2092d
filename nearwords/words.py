"""What is asked of every way and every word before a call is answered."""

LAST_WAY = 3
LONGEST = 32
REFUSED = -1


def no_such_way(way):
    return way < 0 or way > LAST_WAY


def too_long(word):
    return len(word) > LONGEST
