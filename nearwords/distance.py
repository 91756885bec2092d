"""How far two words are from one another, in each of the four ways."""

ALL_FOUR = 2
SET_ALONE = 3
NO_DISTANCE = -2

# By way: where no byte can be set, one is cut out and another put in.
EDITS_TO_REPLACE = (2, 1, 1)


def how_far(way, s, t):
    if way == SET_ALONE:
        return places_that_differ(s, t)
    return fewest_edits(way, s, t)


def places_that_differ(s, t):
    if len(s) != len(t):
        return NO_DISTANCE
    return sum([1 for place in range(len(s)) if s[place] != t[place]])


def fewest_edits(way, s, t):
    """Row i and column j of the table: how far the first i bytes of s are from the first j of t."""
    table = [list(range(len(t) + 1))]
    last_row_of = {}
    for byte in s:
        row = next_row(way, table, last_row_of, byte, t)
        last_row_of[byte] = len(table)
        table.append(row)
    return table[len(s)][len(t)]


def next_row(way, table, last_row_of, byte, t):
    """The row for one more byte of s; last_row_of tells the row in which each earlier byte was last added."""
    i = len(table)
    above = table[i - 1]
    row = [i]
    last_match = 0
    for j in range(1, len(t) + 1):
        other = t[j - 1]
        replaced = 0 if byte == other else EDITS_TO_REPLACE[way]
        fewest = min(above[j] + 1, row[j - 1] + 1, above[j - 1] + replaced)
        if way == ALL_FOUR:
            fewest = min(fewest, changed_about(table, last_row_of.get(other, 0), last_match, i, j))
        row.append(fewest)
        if byte == other:
            last_match = j
    return row


def changed_about(table, first_row, first_column, i, j):
    """How many edits it takes if the bytes at first_row and i are changed about and end at first_column and j.

    What stands between them in s is cut out before, so that they are neighbours, and what stands between
    them in t is put in after. No pair that is further apart need be tried: since cutting out and putting in
    a byte costs as much as changing about twice, the last pair is always as good (Lowrance and Wagner).
    """
    if first_row == 0 or first_column == 0:
        # There is no such pair; as many edits as this always do.
        return i + j
    cut_out = i - first_row - 1
    put_in = j - first_column - 1
    return table[first_row - 1][first_column - 1] + cut_out + 1 + put_in
