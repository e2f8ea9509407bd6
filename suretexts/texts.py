"""Webs, walks and papers as texts, and back."""

from suretexts.basics import is_below, is_between, is_listed
from suretexts.errors import InvalidSort, InvalidThing, TooMany, UnreadText
from suretexts.webs import LONGEST_WALK, MOST_PLACES, Web, are_ties
from suretexts.written import reading_of, thing_written

SORTS = ("web", "walk", "yes", "ranks")
MOST_SIGNS = 8000
MOST_ROWS = 400
MOST_IN_LOT = 60


def _need_sort(sort):
    if sort not in SORTS:
        raise InvalidSort(sort)


def _are_counts(value):
    """Whether all of a list or tuple are COUNTS of at most thirty digits."""
    return all([is_below(number, 10 ** 30) for number in value])


def _is_walk(value):
    return is_listed(value) and is_between(len(value), 1, LONGEST_WALK) and _are_counts(value)


def _is_lot(value):
    return is_listed(value) and len(value) <= MOST_IN_LOT and _are_counts(value)


def _is_pair(value):
    """Whether any value is a tuple (COUNT, COUNT)."""
    return isinstance(value, tuple) and len(value) == 2 and _are_counts(value)


def _is_around(value):
    """Whether any value is a tuple (COUNT, COUNT, lot)."""
    return isinstance(value, tuple) and len(value) == 3 and _are_counts(value[:2]) and _is_lot(value[2])


def _is_rank(value):
    """Whether any value is a tuple ((COUNT, COUNT), COUNT)."""
    return isinstance(value, tuple) and len(value) == 2 and _is_pair(value[0]) and _are_counts(value[1:])


def _are_rows(value):
    return is_listed(value) and len(value) <= MOST_ROWS


def _is_yes(value):
    return _are_rows(value) and all([_is_around(row) for row in value])


def _is_ranks(value):
    if not isinstance(value, tuple) or len(value) != 2 or not _are_rows(value[0]) or not _are_rows(value[1]):
        return False
    return all([_is_rank(row) for row in value[0]]) and all([_is_pair(row) for row in value[1]])


def _is_of_sort(sort, value):
    if sort == "web":
        return isinstance(value, Web)
    if sort == "walk":
        return _is_walk(value)
    return _is_yes(value) if sort == "yes" else _is_ranks(value)


def is_of_sort(sort, value):
    """Whether any value is of the sort."""
    _need_sort(sort)
    return _is_of_sort(sort, value)


def _as_written(sort, value):
    """The value of the sort as plain tuples and lists, the lists as lists."""
    if sort == "web":
        return (value.places, value.ties())
    if sort == "walk":
        return list(value)
    if sort == "yes":
        return [(i, j, list(lot)) for i, j, lot in value]
    return (list(value[0]), list(value[1]))


def written(sort, value):
    """The thing of the sort, written."""
    _need_sort(sort)
    if not _is_of_sort(sort, value):
        raise InvalidThing(value)
    signs = thing_written(_as_written(sort, value))
    if len(signs) > MOST_SIGNS:
        raise TooMany("signs", MOST_SIGNS)
    return signs


def _is_web_told(thing):
    """Whether a thing that was read is a number of places and ties for so many."""
    if not isinstance(thing, tuple) or len(thing) != 2:
        return False
    return is_between(thing[0], 1, MOST_PLACES) and are_ties(thing[0], thing[1])


def read(sort, text):
    """The thing of the sort whose written form the text is."""
    _need_sort(sort)
    if not isinstance(text, str):
        raise UnreadText(None)
    position, thing = reading_of(text)
    if position is not None:
        raise UnreadText(position)
    if sort == "web" and _is_web_told(thing):
        thing = Web(thing[0], thing[1])
    # What has a tuple in the place of a list is written, but otherwise than the sort is.
    if not _is_of_sort(sort, thing) or thing_written(_as_written(sort, thing)) != text:
        raise UnreadText(None)
    return thing
