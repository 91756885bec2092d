"""A dictionary whose words are found by how near they are to another."""

from nearwords.distance import NO_DISTANCE, how_far

MOST_WORDS = 256

ADDED = 0
IN_ALREADY = 1
FULL = -2
NONE_SO_NEAR = -2


class Dictionary:
    def __init__(self):
        self.words = {}

    def add(self, word):
        kept = tuple(word)
        if kept in self.words:
            return IN_ALREADY
        if len(self.words) >= MOST_WORDS:
            return FULL
        self.words[kept] = True
        return ADDED

    def within(self, way, k, s):
        """How far each word that is no further than k from s is, with the word, as they were added."""
        found = []
        for word in self.words:
            # No edit changes a length by more than one, so many words need not be compared byte by byte.
            if abs(len(word) - len(s)) <= k:
                far = how_far(way, s, word)
                if far != NO_DISTANCE and far <= k:
                    found.append((far, word))
        return found

    def near(self, way, k, i, s):
        # Python orders rows of bytes as the dictionary does: by the first that differ, a beginning first.
        found = sorted(self.within(way, k, s))
        if i >= len(found):
            return [NONE_SO_NEAR]
        far = found[i][0]
        word = found[i][1]
        return [far] + list(word)
