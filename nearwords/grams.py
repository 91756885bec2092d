"""How many runs of bytes two words have in common."""


def common_runs(q, s, t):
    left = run_counts(q, s)
    found = 0
    for run in runs(q, t):
        if left.get(run, 0) > 0:
            # A run of s stands for one of t alone, so each is counted as often as it's in both.
            left[run] -= 1
            found += 1
    return found


def run_counts(q, word):
    counts = {}
    for run in runs(q, word):
        counts[run] = counts.get(run, 0) + 1
    return counts


def runs(q, word):
    return [tuple(word[place:place + q]) for place in range(len(word) - q + 1)]
