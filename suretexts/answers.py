"""What a desk answers to commands that are no deeds."""

from suretexts.columns import column_of, ring_of_column
from suretexts.commands import lot_shown
from suretexts.finder import Finder
from suretexts.greatest import contigs
from suretexts.numbers import how_many
from suretexts.pieced import has_just
from suretexts.pieces import PieceWeb
from suretexts.readers import EMPTY
from suretexts.rings import normal
from suretexts.shelves import states_told
from suretexts.shortest import shortest_length


def _yes_or_no(value):
    return "yes" if value else "no"


def _in_a_row(words):
    return " ".join(words) or EMPTY


def _lot(shelf, values):
    return shelf.lots[values[0]]


def _solid(shelf, values):
    """The solid pieces of the lot that is named first, by the number behind."""
    return _lot(shelf, values).solid(values[1])


def _state(shelf, values):
    return shelf.states[values[0]]


def _states(shelf, _):
    return states_told(shelf, list(shelf.notes))


def _claimed(shelf, values):
    return shelf.notes[values[0]][0]


def _names(shelf, _):
    return _in_a_row(sorted(shelf.lots))


def _show(shelf, values):
    return lot_shown(_lot(shelf, values))


def _same(shelf, values):
    return _yes_or_no(_lot(shelf, values) == shelf.lots[values[1]])


def _times(shelf, values):
    return str(_lot(shelf, values).times_of(values[1]))


def _pieces(shelf, values):
    return ", ".join([f"{piece} {often}" for piece, often in _lot(shelf, values).pieces()]) or EMPTY


def _solid_ones(shelf, values):
    return _in_a_row(_solid(shelf, values))


def _contigs(shelf, values):
    return _in_a_row(["@" + text if is_round else text for text, is_round in contigs(_solid(shelf, values))])


def _shortest(shelf, values):
    return str(shortest_length(_solid(shelf, values)))


def _rings(shelf, values):
    solid = _solid(shelf, values)
    often = dict(_lot(shelf, values).pieces())
    return str(how_many(PieceWeb(solid).web(), [often[piece] for piece in solid]))


def _explains(shelf, values):
    return _yes_or_no(has_just(values[2], _solid(shelf, values)))


def _again(shelf, values):
    return Finder([text for text, _ in _lot(shelf, values).readings()]).longest_again() or EMPTY


def _normal(_, values):
    return normal(values[0])


def _column(_, values):
    return column_of(values[0])


def _ring(_, values):
    return ring_of_column(values[0])


ANSWERS = {
    "state": _state, "states": _states, "claimed": _claimed, "names": _names, "show": _show, "same": _same,
    "times": _times, "pieces": _pieces, "solid": _solid_ones, "contigs": _contigs, "shortest": _shortest,
    "rings": _rings, "explains": _explains, "again": _again, "normal": _normal, "column": _column, "ring": _ring}


def answer_of(shelf, word, values):
    """The answer to the command of the word, which hands over these values."""
    answer = ANSWERS[word]
    return answer(shelf, values)
