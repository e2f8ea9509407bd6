"""Words with wrong letters, mended by fewest changes to the letters of a walk."""

from suretexts.basics import is_below, is_count, is_listed
from suretexts.errors import InvalidMany, InvalidWord, NothingSolid, TooMany
from suretexts.lots import need_lot
from suretexts.pieced import MOST_PIECES, MOST_WORDS, words_of
from suretexts.pieces import PieceWeb, need_pieceweb
from suretexts.rings import is_ring
from suretexts.webs import is_walk, need_walk

LONGEST_WORD = 200


def _need_short_word(word):
    if not is_ring(word) or len(word) > LONGEST_WORD:
        raise InvalidWord(word)


def _letters(pieceweb):
    """The letters of all ties, one behind the other."""
    return "".join([piece[-1] for piece in pieceweb.pieces()])


def walk_letters(pieceweb, walk):
    """The letters of a walk of the piece web."""
    need_pieceweb(pieceweb)
    need_walk(pieceweb.web(), walk)
    letters = _letters(pieceweb)
    return "".join([letters[tie] for tie in walk])


def _with_puts(ties, row):
    """The row of levels, lowered where letters are put in along ties."""
    lowered = list(row)
    changed = True
    while changed:
        changed = False
        for near, far in ties:
            if lowered[near] + 1 < lowered[far]:
                lowered[far] = lowered[near] + 1
                changed = True
    return lowered


def _cost(letters, tie, letter):
    """How many changes it is to read the letter by the tie."""
    return 0 if letters[tie] == letter else 1


def _levels(pieceweb, word):
    """For each number of letters read the list of the levels of the places."""
    web = pieceweb.web()
    ties = web.ties()
    letters = _letters(pieceweb)
    rows = [[0] * web.places]
    for letter in word:
        ahead = rows[-1]
        row = [level + 1 for level in ahead]
        for tie, (near, far) in enumerate(ties):
            row[far] = min(row[far], ahead[near] + _cost(letters, tie, letter))
        rows.append(_with_puts(ties, row))
    return rows


def least_changes(pieceweb, word):
    """The least changes of the word."""
    need_pieceweb(pieceweb)
    _need_short_word(word)
    return min(_levels(pieceweb, word)[-1])


def _read_by(letters, tie, letter):
    """The deed that reads the letter by the tie."""
    return ("turn", tie) if _cost(letters, tie, letter) else ("keep", tie)


def _last_deed(web, letters, letter, rows, place):
    """The tuple (last deed of fewest changes to the place, how many letters it reads, place ahead of it).

    The letter is the last one read; the two rows tell the levels ahead of it and behind it.
    """
    ahead, row = rows
    ties = web.ties()
    for tie in web.ties_to(place):
        near = ties[tie][0]
        if ahead[near] + _cost(letters, tie, letter) == row[place]:
            return (_read_by(letters, tie, letter), 1, near)
        if row[near] + 1 == row[place]:
            return (("put", tie), 0, near)
    return (("out",), 1, place)


def _fewest_deeds(pieceweb, word):
    """Deeds of a mending with the least changes."""
    rows = _levels(pieceweb, word)
    least = min(rows[-1])
    letters = _letters(pieceweb)
    if least == len(word):
        # Here leaving out all letters is as good, but a walk has a tie; and no tie has a letter of the word.
        return [_read_by(letters, 0, word[0])] + [("out",)] * (len(word) - 1)
    web = pieceweb.web()
    place = rows[-1].index(least)
    read = len(word)
    deeds = []
    while read > 0:
        deed, many, place = _last_deed(web, letters, word[read - 1], rows[read - 1:read + 1], place)
        deeds.append(deed)
        read = read - many
    return deeds[::-1]


def _walk_of(deeds):
    """The ties of the deeds, in their sequence."""
    return [deed[1] for deed in deeds if len(deed) == 2]


def mended(pieceweb, word):
    """A mending of the word with the least changes."""
    need_pieceweb(pieceweb)
    _need_short_word(word)
    deeds = _fewest_deeds(pieceweb, word)
    return (_walk_of(deeds), deeds)


def _is_deed(web, value):
    """Whether any value is a deed, whatever it does to a word."""
    if not isinstance(value, tuple) or len(value) not in (1, 2):
        return False
    if len(value) == 1:
        return value[0] == "out"
    return value[0] in ("keep", "turn", "put") and is_below(value[1], web.many)


def _do_read(letters, word, deeds):
    """Whether the deeds read all letters of the word, each as it is."""
    at = 0
    for deed in deeds:
        if deed[0] == "put":
            continue
        if at == len(word):
            return False
        if len(deed) == 2 and deed != _read_by(letters, deed[1], word[at]):
            return False
        at += 1
    return at == len(word)


def is_mending(pieceweb, word, value):
    """Whether any value is a mending of the word, with however many changes."""
    need_pieceweb(pieceweb)
    _need_short_word(word)
    if not isinstance(value, tuple) or len(value) != 2:
        return False
    web = pieceweb.web()
    walk, deeds = value
    if not is_walk(web, walk) or not is_listed(deeds) or not all([_is_deed(web, deed) for deed in deeds]):
        return False
    return _walk_of(deeds) == list(walk) and _do_read(_letters(pieceweb), word, deeds)


def change_paper(pieceweb, word):
    """The levels of the word, a change paper for its least changes."""
    need_pieceweb(pieceweb)
    _need_short_word(word)
    return _levels(pieceweb, word)


def _are_counts(value, many):
    """Whether any value is a list of so many COUNTS."""
    return is_listed(value) and len(value) == many and all([is_count(number) for number in value])


def _are_rows(value, rows, places):
    """Whether any value is a list of so many lists with a COUNT for each place."""
    return is_listed(value) and len(value) == rows and all([_are_counts(row, places) for row in value])


def _no_put_above(ties, row):
    return all([row[far] <= row[near] + 1 for near, far in ties])


def _no_reading_above(ties, letters, letter, ahead, row):
    """Whether neither reading the letter nor leaving it out leads to more than it costs."""
    if not all([row[place] <= level + 1 for place, level in enumerate(ahead)]):
        return False
    return all([row[far] <= ahead[near] + _cost(letters, tie, letter) for tie, (near, far) in enumerate(ties)])


def is_change_paper(pieceweb, word, value, many):
    """Whether any value is a change paper for the COUNT many."""
    need_pieceweb(pieceweb)
    _need_short_word(word)
    if not is_count(many):
        raise InvalidMany(many)
    web = pieceweb.web()
    if not _are_rows(value, len(word) + 1, web.places):
        return False
    if max(value[0]) > 0 or min(value[-1]) < many:
        return False
    ties = web.ties()
    letters = _letters(pieceweb)
    if not all([_no_put_above(ties, row) for row in value]):
        return False
    return all([_no_reading_above(ties, letters, word[at], value[at], value[at + 1]) for at in range(len(word))])


def _need_mendable(lot, solid):
    """Raise what keeps the readings of the lot from being mended by these solid pieces."""
    if solid == []:
        raise NothingSolid()
    if len(solid) > MOST_PIECES:
        raise TooMany("pieces", MOST_PIECES)
    if len(words_of(solid)) > MOST_WORDS:
        raise TooMany("words", MOST_WORDS)
    for text, _ in lot.readings():
        if len(text) > LONGEST_WORD:
            raise TooMany("letters", LONGEST_WORD)


def _mended_reading(pieceweb, text, times):
    """The tuple of a reading, its times, what it becomes, and by how many changes."""
    if text == "":
        return (text, times, text, 0)
    deeds = _fewest_deeds(pieceweb, text)
    changes = len([deed for deed in deeds if deed[0] != "keep"])
    return (text, times, walk_letters(pieceweb, _walk_of(deeds)), changes)


def mended_readings(lot, least):
    """The list of the tuples (reading, times, mended reading, changes) of the lot."""
    need_lot(lot)
    solid = lot.solid(least)
    _need_mendable(lot, solid)
    pieceweb = PieceWeb(solid)
    return [_mended_reading(pieceweb, text, times) for text, times in lot.readings()]
