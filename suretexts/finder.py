"""Words found in several texts, by rows sorted by what is read from them on."""

from suretexts.basics import is_between, is_listed
from suretexts.errors import InvalidTexts
from suretexts.rings import MOST_LETTERS, is_text, need_word

MOST_TEXTS = 20


def _need_texts(texts):
    if not is_listed(texts) or not is_between(len(texts), 1, MOST_TEXTS) or not all([is_text(text) for text in texts]):
        raise InvalidTexts(texts)
    if sum([len(text) for text in texts]) > MOST_LETTERS:
        raise InvalidTexts(texts)


def _places_in(texts):
    """All tuples (number of a text, a place of it), in their sequence."""
    return [(number, place) for number, text in enumerate(texts) for place in range(len(text))]


def plain_places(texts, word):
    """The sorted list of the tuples (text, place) at which the word is read, by a look at each place."""
    _need_texts(texts)
    need_word(word)
    size = len(word)
    return [(number, place) for number, place in _places_in(texts) if texts[number][place:place + size] == word]


def _in_common(one, other):
    """The longest begin that two texts have in common."""
    many = 0
    while many < min(len(one), len(other)) and one[many] == other[many]:
        many += 1
    return one[:many]


def _sorted_places(texts):
    """The tuples (number of a text, place of it), sorted by what is read from there on, and then by themselves."""
    read = [(texts[number][place:], number, place) for number, place in _places_in(texts)]
    return [(number, place) for _, number, place in sorted(read)]


class Finder:
    """Texts, and their rows: the places of all of them, sorted by what is read from there on."""

    def __init__(self, texts):
        _need_texts(texts)
        self._texts = list(texts)
        self._rows = _sorted_places(texts)

    def __eq__(self, other):
        return isinstance(other, Finder) and self._texts == other._texts

    def texts(self):
        """The list of the texts."""
        return list(self._texts)

    def rows(self):
        """The list of the rows, tuples (text, place)."""
        return list(self._rows)

    def last_letters(self):
        """For each row the letter ahead of its place, "" at the begin of a text."""
        return [self._texts[number][:place][-1:] for number, place in self._rows]

    def _read_from(self, at):
        """What is read from the row to the end of its text."""
        number, place = self._rows[at]
        return self._texts[number][place:]

    def _rows_ahead(self, word, with_word):
        """How many rows read less than the word, with those that begin with it or without: found by halving."""
        low = 0
        high = len(self._rows)
        while low < high:
            middle = (low + high) // 2
            read = self._read_from(middle)
            if read < word or (with_word and read.startswith(word)):
                low = middle + 1
            else:
                high = middle
        return low

    def _bounds(self, word):
        need_word(word)
        return (self._rows_ahead(word, False), self._rows_ahead(word, True))

    def stretch_of(self, word):
        """The tuple (first row at which the word stands, the one behind the last), or None."""
        first, behind = self._bounds(word)
        return (first, behind) if first < behind else None

    def places_of(self, word):
        """The sorted list of the rows at which the word stands."""
        first, behind = self._bounds(word)
        return sorted(self._rows[first:behind])

    def how_often(self, word):
        """At how many rows the word stands."""
        first, behind = self._bounds(word)
        return behind - first

    def longest_again(self):
        """The least of the longest words that stand at two rows at least, or the empty text."""
        longest = ""
        for at in range(1, len(self._rows)):
            both = _in_common(self._read_from(at - 1), self._read_from(at))
            # The rows ascend, so what is as long and comes later is not less.
            if len(both) > len(longest):
                longest = both
        return longest
