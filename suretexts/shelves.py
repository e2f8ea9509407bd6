"""Shelves of desks: lots under names, and claims under labels with their states."""

from suretexts.claims import is_claim, is_true
from suretexts.commands import word_of
from suretexts.errors import InvalidClaim, LabelTaken, NameTaken, TooMany, UnknownLabel, UnknownName
from suretexts.lots import Lot, both_lots, with_reading, without_reading
from suretexts.pieced import are_pieces, need_pieces
from suretexts.pieces import PieceWeb
from suretexts.readers import EMPTY

MOST_NAMES = 8
MOST_LABELS = 8


class Shelf:
    """Lots by names, notes by labels, and states by labels. A shelf is never changed: another one takes its place.

    A note is a tuple (words of the claim, word, name, least, what is handed over besides).
    """

    def __init__(self, lots, notes, states):
        self.lots = lots
        self.notes = notes
        self.states = states


def _claim_of_pieces(solid, word, more):
    """The tuple of the claim about some pieces that make a web."""
    if word in ("certain", "doubtful"):
        return (word, solid, more[0])
    web = PieceWeb(solid).web()
    if word in ("sure", "loose"):
        return (word, web, list(more[0]))
    if word in ("cheap", "dear"):
        return (word, web, [1] * web.many, more[0])
    return (word, web)


def _claim_of_note(lots, note):
    """The claim as it is of these lots, or None while it is gone."""
    _, word, name, least, more = note
    if name not in lots:
        return None
    solid = lots[name].solid(least)
    if not are_pieces(solid):
        return None
    claim = _claim_of_pieces(solid, word, more)
    return claim if is_claim(claim) else None


def claim_on(shelf, label):
    """The claim under the label as it is now, or None while it is gone."""
    return _claim_of_note(shelf.lots, shelf.notes[label])


def _state_of_note(lots, note):
    claim = _claim_of_note(lots, note)
    if claim is None:
        return "gone"
    return "true" if is_true(claim) else "false"


def _shelf_after(shelf, lots, notes):
    """The shelf with these lots and notes; of a claim whose lot stays, the state stays, too."""
    states = {}
    for label, note in notes.items():
        name = note[2]
        if label in shelf.states and shelf.lots.get(name) == lots.get(name):
            states[label] = shelf.states[label]
        else:
            states[label] = _state_of_note(lots, note)
    return Shelf(lots, notes, states)


def need_in_use(shelf, parts):
    """Raise what is told of names and labels that a command wants to be in use, or not to be."""
    for kind, value in parts:
        if kind == "new" and value in shelf.lots:
            raise NameTaken(value)
        if kind == "fresh" and value in shelf.notes:
            raise LabelTaken(value)
        if kind == "name" and value not in shelf.lots:
            raise UnknownName(value)
        if kind == "label" and value not in shelf.notes:
            raise UnknownLabel(value)


def _lot_after(lots, word, values):
    """The lot that is kept by the deed under the first one of the values."""
    if word == "lot":
        return Lot(values[1], [])
    if word == "read":
        return values[1]
    if word == "both":
        return both_lots(lots[values[1]], lots[values[2]])
    if word == "copy":
        return lots[values[1]]
    if word == "add":
        return with_reading(lots[values[0]], values[2], values[1])
    return without_reading(lots[values[0]], values[2], values[1])


def _note_made(shelf, line, values):
    """The note of a claim that is one now."""
    word, name, least = values[1], values[2], values[3]
    solid = shelf.lots[name].solid(least)
    need_pieces(solid)
    claim = _claim_of_pieces(solid, word, values[4:])
    if not is_claim(claim):
        raise InvalidClaim(claim)
    return (line.split(" ", 2)[2], word, name, least, values[4:])


def _without(table, key):
    return {other: table[other] for other in table if other != key}


def shelf_behind(shelf, line, values):
    """The shelf behind the deed of this line, which hands over these values."""
    word = word_of(line)
    if word == "claim":
        note = _note_made(shelf, line, values)
        if len(shelf.notes) == MOST_LABELS:
            raise TooMany("labels", MOST_LABELS)
        return _shelf_after(shelf, shelf.lots, {**shelf.notes, values[0]: note})
    if word == "forget":
        return _shelf_after(shelf, shelf.lots, _without(shelf.notes, values[0]))
    if word == "drop":
        return _shelf_after(shelf, _without(shelf.lots, values[0]), shelf.notes)
    lots = {**shelf.lots, values[0]: _lot_after(shelf.lots, word, values)}
    if len(lots) > MOST_NAMES:
        raise TooMany("names", MOST_NAMES)
    return _shelf_after(shelf, lots, shelf.notes)


def states_told(shelf, labels):
    """The labels with their states, sorted, in one line."""
    return ", ".join([f"{label} {shelf.states[label]}" for label in sorted(labels)]) or EMPTY


def changes_told(shelf, other):
    """The states on the shelf that are others than on the other one, in one line."""
    return states_told(shelf, [label for label in shelf.states if shelf.states[label] != other.states.get(label)])
