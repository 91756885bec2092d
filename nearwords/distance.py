"""How far two words are from one another, in each of the four ways."""

ALL_FOUR = 2
SET_ALONE = 3
NO_DISTANCE = -2

# By way: where no byte can be set, one is cut out and another put in.
EDITS_TO_REPLACE = (2, 1, 1)


def how_far(way, s, t):
    if way == SET_ALONE:
        return places_that_differ(s, t)
    return fewest_edits(way, s, t)


def places_that_differ(s, t):
    if len(s) != len(t):
        return NO_DISTANCE
    return sum([1 for place in range(len(s)) if s[place] != t[place]])


def fewest_edits(way, s, t):
    """Row i and column j of the table: how far the first i bytes of s are from the first j of t."""
    table = [list(range(len(t) + 1))]
    last_row_of = {}
    for byte in s:
        row = next_row(way, table, last_row_of, byte, t)
        last_row_of[byte] = len(table)
        table.append(row)
    return table[len(s)][len(t)]


def next_row(way, table, last_row_of, byte, t):
    """The row for one more byte of s; last_row_of tells the row in which each earlier byte was last added."""
    i = len(table)
    above = table[i - 1]
    replaced = EDITS_TO_REPLACE[way]
    fewest = i
    row = [fewest]
    last_match = 0
    for j in range(1, len(t) + 1):
        other = t[j - 1]
        if byte == other:
            # A byte that can stay as it is does: no edit of it makes the words nearer.
            fewest = above[j - 1]
            last_match = j
        else:
            # Compared one by one and not by min: near comes here for every byte of every word.
            fewest += 1
            if above[j] + 1 < fewest:
                fewest = above[j] + 1
            if above[j - 1] + replaced < fewest:
                fewest = above[j - 1] + replaced
            if way == ALL_FOUR and last_match > 0 and other in last_row_of:
                fewest = min(fewest, changed_about(table, last_row_of[other], last_match, i, j))
        row.append(fewest)
    return row


def changed_about(table, first_row, first_column, i, j):
    """How many edits it takes if the bytes at first_row and i are changed about and end at first_column and j.

    What stands between them in s is cut out before, so that they are neighbours, and what stands between
    them in t is put in after. No pair that is further apart need be tried: since cutting out and putting in
    a byte costs as much as changing about twice, the last pair is always as good (Lowrance and Wagner).
    """
    cut_out = i - first_row - 1
    put_in = j - first_column - 1
    return table[first_row - 1][first_column - 1] + cut_out + 1 + put_in
