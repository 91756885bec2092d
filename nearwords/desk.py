"""Answers a list of calls."""

from nearwords.common import common_length, shares
from nearwords.distance import how_far
from nearwords.edits import makes
from nearwords.reader import Reader
from nearwords.words import REFUSED, no_such_way, too_long

FAR = 0
MAKES = 1
COMMON = 2
SHARES = 3


class NoSuchCall(ValueError):
    pass


def answers(calls):
    reader = Reader(calls)
    given = []
    while not reader.at_end():
        answer = answer_next(reader)
        given.append(len(answer))
        given.extend(answer)
    return given


def answer_next(reader):
    call = reader.take_number()
    if call == FAR:
        return answer_far(reader)
    if call == MAKES:
        return answer_makes(reader)
    if call == COMMON:
        return answer_common(reader)
    if call == SHARES:
        return answer_shares(reader)
    raise NoSuchCall(f"no call has the number {call}")


def answer_far(reader):
    way = reader.take_number()
    s = reader.take_row()
    t = reader.take_row()
    if no_such_way(way) or too_long(s) or too_long(t):
        return [REFUSED]
    return [how_far(way, s, t)]


def answer_makes(reader):
    way = reader.take_number()
    s = reader.take_row()
    t = reader.take_row()
    edits = reader.take_row()
    if no_such_way(way) or too_long(s) or too_long(t):
        return [REFUSED]
    return [makes(way, s, t, edits)]


def answer_common(reader):
    s = reader.take_row()
    t = reader.take_row()
    if too_long(s) or too_long(t):
        return [REFUSED]
    return [common_length(s, t)]


def answer_shares(reader):
    s = reader.take_row()
    t = reader.take_row()
    c = reader.take_row()
    if too_long(s) or too_long(t) or too_long(c):
        return [REFUSED]
    return [shares(s, t, c)]
