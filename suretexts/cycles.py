"""Strings and lists that are read round and round, and words that begin in them.

What is said here of letters and words holds of ties and walks as well.
"""


def least_start(cycle):
    """A place at which the least turning of the cycle begins.

    Two places are compared. Where one of both reads the greater sign behind
    some like ones, each place within these has a rival that is less, too, so
    all of them are passed over at once.
    """
    size = len(cycle)
    one, two, alike = 0, 1, 0
    while one < size and two < size and alike < size:
        near = cycle[(one + alike) % size]
        far = cycle[(two + alike) % size]
        if near == far:
            alike += 1
            continue
        if near > far:
            one = one + alike + 1
        else:
            two = two + alike + 1
        if one == two:
            two += 1
        alike = 0
    return min(one, two)


def longest_borders(word):
    """The lengths of the longest borders of its first 1, 2, .. signs."""
    lengths = [0]
    kept = 0
    for sign in word[1:]:
        while kept > 0 and word[kept] != sign:
            kept = lengths[kept - 1]
        if word[kept] == sign:
            kept += 1
        lengths.append(kept)
    return lengths


def starts_in(cycle, word):
    """The rising list of the places of the cycle at which the word begins."""
    lengths = longest_borders(word)
    found = []
    kept = 0
    # A word that begins at the last place is read so far behind it.
    for at in range(len(cycle) + len(word) - 1):
        sign = cycle[at % len(cycle)]
        while kept > 0 and (kept == len(word) or word[kept] != sign):
            kept = lengths[kept - 1]
        if word[kept] == sign:
            kept += 1
        if kept == len(word):
            found.append(at - len(word) + 1)
    return found
