"""Columns: the last letters of a ring's sorted turnings, from which the ring is told again."""

from suretexts.errors import NoRing
from suretexts.rings import need_ring, need_word, normal, turned


def column_of(ring):
    """The last letters of the sorted turnings of the ring."""
    need_ring(ring)
    return "".join([turning[-1] for turning in sorted([turned(ring, by) for by in range(len(ring))])])


def _formers(column):
    """For each place of the column its former, the place of the same letter among the sorted ones."""
    # Places of alike letters stay in their sequence.
    sorted_ones = sorted([(letter, at) for at, letter in enumerate(column)])
    formers = [0] * len(column)
    for former, (_, place) in enumerate(sorted_ones):
        formers[place] = former
    return formers


def _rings_in(column):
    """The normals of the rings of all rounds of formers."""
    formers = _formers(column)
    seen = {}
    rings = []
    for start in range(len(column)):
        met = []
        place = start
        while place not in seen:
            seen[place] = True
            met.append(column[place])
            place = formers[place]
        if met != []:
            rings.append(normal("".join(met[::-1])))
    return rings


def is_column(column):
    """Whether the text is the column of a ring."""
    need_ring(column)
    return len(set(_rings_in(column))) == 1


def _need_column(column):
    if not is_column(column):
        raise NoRing()


def ring_of_column(column):
    """The normal ring that has the column."""
    need_ring(column)
    _need_column(column)
    return "".join(_rings_in(column))


def _stretch_by(column, word):
    """The tuple (first, behind) of the rows that begin with the word, found from its last letter on."""
    first = 0
    behind = len(column)
    for letter in word[::-1]:
        less = len([other for other in column if other < letter])
        first = less + column[:first].count(letter)
        behind = less + column[:behind].count(letter)
    return (first, behind)


def stretch_by(column, word):
    """The tuple (first, behind) of the rows of the column's ring that begin with the word, or None."""
    need_ring(column)
    need_word(word)
    _need_column(column)
    first, behind = _stretch_by(column, word)
    return (first, behind) if first < behind else None


def how_often_by(column, word):
    """At how many places of the column's ring the word is read, round and round."""
    need_ring(column)
    need_word(word)
    _need_column(column)
    first, behind = _stretch_by(column, word)
    return behind - first
