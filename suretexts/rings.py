"""Texts, and rings that are read round and round."""

from suretexts.basics import is_count, is_letter
from suretexts.cycles import least_start, longest_borders, starts_in
from suretexts.errors import InvalidBy, InvalidRing, InvalidText, InvalidWord

MOST_LETTERS = 400


def is_text(value):
    """Whether any value is a text."""
    if not isinstance(value, str) or len(value) > MOST_LETTERS:
        return False
    return all([is_letter(sign) for sign in value])


def is_ring(value):
    """Whether any value is a ring."""
    return is_text(value) and value != ""


def need_text(text):
    if not is_text(text):
        raise InvalidText(text)


def need_ring(ring):
    if not is_ring(ring):
        raise InvalidRing(ring)


def need_word(word):
    if not is_ring(word):
        raise InvalidWord(word)


def turned(ring, by):
    """The ring from this place on, round and round."""
    need_ring(ring)
    if not is_count(by):
        raise InvalidBy(by)
    return _turned_to(ring, by % len(ring))


def _turned_to(ring, place):
    return ring[place:] + ring[:place]


def plain_normal(ring):
    """The least of all turnings of the ring."""
    need_ring(ring)
    return min([_turned_to(ring, place) for place in range(len(ring))])


def normal(ring):
    """The least turning of the ring, by comparing two places."""
    need_ring(ring)
    return _turned_to(ring, least_start(ring))


def are_alike(ring, other):
    """Whether one ring is the other one turned."""
    need_ring(ring)
    need_ring(other)
    return normal(ring) == normal(other)


def borders(word):
    """The lengths of the longest borders of its first 1, 2, .. letters."""
    need_word(word)
    return longest_borders(word)


def read_on(ring, place, many):
    """So many letters of a ring, read from the place round and round."""
    return "".join([ring[(place + k) % len(ring)] for k in range(many)])


def plain_begins(ring, word):
    """The places of the ring at which the word begins, by trying all."""
    need_ring(ring)
    need_word(word)
    return [place for place in range(len(ring)) if read_on(ring, place, len(word)) == word]


def begins(ring, word):
    """The places of the ring at which the word begins, by borders."""
    need_ring(ring)
    need_word(word)
    return starts_in(ring, word)


def stands_in(ring, word):
    """Whether the word begins anywhere in the ring."""
    return len(begins(ring, word)) > 0


def period_of(ring):
    """The least number of places by which the ring is turned into itself."""
    need_ring(ring)
    step = len(ring) - longest_borders(ring)[-1]
    # A step that leaves a rest turns the letters only as a line, not round.
    return step if len(ring) % step == 0 else len(ring)


def root_of(ring):
    """The first letters of the ring, as many as its period."""
    return ring[:period_of(ring)]


def overlap(text, next_text):
    """How many last letters of the text are at most first ones of the next."""
    need_text(text)
    need_text(next_text)
    for many in range(min(len(text), len(next_text)) - 1, 0, -1):
        if text.endswith(next_text[:many]):
            return many
    return 0
