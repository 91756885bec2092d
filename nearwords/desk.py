"""Answers a list of calls."""

from nearwords.common import common_length, shares
from nearwords.dictionary import Dictionary
from nearwords.distance import how_far
from nearwords.edits import makes
from nearwords.grams import common_runs
from nearwords.reader import Reader
from nearwords.words import REFUSED, no_such_run, no_such_way, too_long

FAR = 0
MAKES = 1
COMMON = 2
SHARES = 3
GRAMS = 4
ADD = 5
NEAR = 6
COUNT = 7


class NoSuchCall(ValueError):
    pass


def answers(calls):
    reader = Reader(calls)
    dictionary = Dictionary()
    given = []
    while not reader.at_end():
        answer = answer_next(reader, dictionary)
        given.append(len(answer))
        given.extend(answer)
    return given


def answer_next(reader, dictionary):
    call = reader.take_number()
    if call == FAR:
        return answer_far(reader)
    if call == MAKES:
        return answer_makes(reader)
    if call == COMMON:
        return answer_common(reader)
    if call == SHARES:
        return answer_shares(reader)
    if call == GRAMS:
        return answer_grams(reader)
    if call == ADD:
        return answer_add(reader, dictionary)
    if call == NEAR:
        return answer_near(reader, dictionary)
    if call == COUNT:
        return answer_count(reader, dictionary)
    raise NoSuchCall(f"no call has the number {call}")


def answer_far(reader):
    way = reader.take_number()
    s = reader.take_row()
    t = reader.take_row()
    if no_such_way(way) or too_long(s) or too_long(t):
        return [REFUSED]
    return [how_far(way, s, t)]


def answer_makes(reader):
    way = reader.take_number()
    s = reader.take_row()
    t = reader.take_row()
    edits = reader.take_row()
    if no_such_way(way) or too_long(s) or too_long(t):
        return [REFUSED]
    return [makes(way, s, t, edits)]


def answer_common(reader):
    s = reader.take_row()
    t = reader.take_row()
    if too_long(s) or too_long(t):
        return [REFUSED]
    return [common_length(s, t)]


def answer_shares(reader):
    s = reader.take_row()
    t = reader.take_row()
    c = reader.take_row()
    if too_long(s) or too_long(t) or too_long(c):
        return [REFUSED]
    return [shares(s, t, c)]


def answer_grams(reader):
    q = reader.take_number()
    s = reader.take_row()
    t = reader.take_row()
    if no_such_run(q) or too_long(s) or too_long(t):
        return [REFUSED]
    return [common_runs(q, s, t)]


def answer_add(reader, dictionary):
    s = reader.take_row()
    if too_long(s):
        return [REFUSED]
    return [dictionary.add(s)]


def answer_near(reader, dictionary):
    way = reader.take_number()
    k = reader.take_number()
    i = reader.take_number()
    s = reader.take_row()
    if no_such_way(way) or i < 0 or too_long(s):
        return [REFUSED]
    return dictionary.near(way, k, i, s)


def answer_count(reader, dictionary):
    way = reader.take_number()
    k = reader.take_number()
    s = reader.take_row()
    if no_such_way(way) or too_long(s):
        return [REFUSED]
    return [len(dictionary.within(way, k, s))]
