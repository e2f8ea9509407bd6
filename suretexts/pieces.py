"""The webs of pieces, and the texts and rings along their walks and rounds."""

from suretexts.errors import InvalidPieceWeb, TooMany
from suretexts.pieced import has_just, need_pieces, opened, pieces_along, words_of
from suretexts.rings import MOST_LETTERS, need_ring, need_text, normal
from suretexts.webs import Web, copied_web, need_place, need_tie, need_tour, need_walk


def _web_of(words, pieces):
    places = {word: place for place, word in enumerate(words)}
    return Web(len(words), [(places[piece[:-1]], places[piece[1:]]) for piece in pieces])


def _need_letters(many):
    if many > MOST_LETTERS:
        raise TooMany("letters", MOST_LETTERS)


class PieceWeb:
    """The web with a place for each word of the pieces and a tie for each piece."""

    def __init__(self, pieces):
        need_pieces(pieces)
        self._pieces = sorted(pieces)
        self._words = words_of(pieces)
        self._web = _web_of(self._words, self._pieces)

    def __eq__(self, other):
        return isinstance(other, PieceWeb) and self._pieces == other._pieces

    @property
    def size(self):
        """The size of the pieces."""
        return len(self._pieces[0])

    def web(self):
        """The web itself."""
        return copied_web(self._web)

    def pieces(self):
        """The sorted list of the pieces, one for each tie."""
        return list(self._pieces)

    def words(self):
        """The sorted list of the words, one for each place."""
        return list(self._words)

    def word_at(self, place):
        """The word of the place."""
        need_place(self._web, place)
        return self._words[place]

    def letter_of(self, tie):
        """The letter of the tie."""
        need_tie(self._web, tie)
        return self._pieces[tie][-1]

    def text_of(self, walk):
        """The text of the walk."""
        need_walk(self._web, walk)
        _need_letters(self.size - 1 + len(walk))
        return self._pieces[walk[0]][:-1] + self._letters_of(walk)

    def ring_of(self, tour):
        """The ring of the round."""
        need_tour(self._web, tour)
        _need_letters(len(tour))
        return normal(self._letters_of(tour))

    def walk_of(self, text):
        """The walk whose text this is, or None."""
        need_text(text)
        # Nothing can be read from a shorter text, and no walk is empty.
        if len(text) < self.size:
            return None
        return self._ties_along(text)

    def round_of(self, ring):
        """The round of the ring, or None."""
        need_ring(ring)
        return self._ties_along(opened(ring, self.size, 0))

    def _letters_of(self, ties):
        return "".join([self._pieces[tie][-1] for tie in ties])

    def _ties_along(self, text):
        numbers = {piece: tie for tie, piece in enumerate(self._pieces)}
        read = pieces_along(text, self.size)
        if not all([piece in numbers for piece in read]):
            return None
        return [numbers[piece] for piece in read]


def need_pieceweb(pieceweb):
    if not isinstance(pieceweb, PieceWeb):
        raise InvalidPieceWeb(pieceweb)


def explains(pieceweb, ring):
    """Whether the ring explains the pieces of the piece web."""
    need_pieceweb(pieceweb)
    need_ring(ring)
    return has_just(ring, pieceweb.pieces())
