"""The pieces of rings and of texts."""

from suretexts.basics import is_below, is_between, is_listed, is_size, need_size
from suretexts.errors import InvalidBy, InvalidPieces
from suretexts.rings import is_text, need_ring, need_text, read_on

MOST_PIECES = 80
MOST_WORDS = 60


def words_of(pieces):
    """The sorted list of the first and last words of pieces of one size."""
    return sorted(set([piece[:-1] for piece in pieces] + [piece[1:] for piece in pieces]))


def are_pieces(value):
    """Whether any value is a list of pieces that make a piece web."""
    if not is_listed(value) or not is_between(len(value), 1, MOST_PIECES):
        return False
    for piece in value:
        if not is_text(piece) or not is_size(len(piece)) or len(piece) != len(value[0]):
            return False
    return len(set(value)) == len(value) and len(words_of(value)) <= MOST_WORDS


def need_pieces(pieces):
    if not are_pieces(pieces):
        raise InvalidPieces(pieces)


def opened(ring, size, place):
    """The text along which the ring's pieces are read, from the place on."""
    return read_on(ring, place, len(ring) + size - 1)


def pieces_along(text, size):
    """The pieces read from the places of a text, in their sequence."""
    return [text[place:place + size] for place in range(len(text) - size + 1)]


def pieces_often(readings, size):
    """The sorted list of the tuples (piece, how often it comes in the readings)."""
    often = {}
    for text, times in readings:
        for piece in pieces_along(text, size):
            often[piece] = often.get(piece, 0) + times
    return sorted(often.items())


def ring_pieces(ring, size):
    """The sorted list of the tuples (piece, how often) of the ring."""
    need_ring(ring)
    need_size(size)
    return pieces_often([(opened(ring, size, 0), 1)], size)


def line_pieces(text, size):
    """The sorted list of the tuples (piece, how often) of the text."""
    need_text(text)
    need_size(size)
    return pieces_often([(text, 1)], size)


def has_just(ring, pieces):
    """Whether the ring explains the pieces."""
    need_ring(ring)
    need_pieces(pieces)
    size = len(pieces[0])
    return sorted(set(pieces_along(opened(ring, size, 0), size))) == sorted(pieces)


def cut_at(ring, size, place):
    """The ring cut at the place, so that as a line it has the ring's pieces."""
    need_ring(ring)
    need_size(size)
    if not is_below(place, len(ring)):
        raise InvalidBy(place)
    return opened(ring, size, place)
