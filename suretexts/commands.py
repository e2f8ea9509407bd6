"""The commands of a desk: which strings are some, and what they hand over."""

from suretexts.basics import count_of, is_between, is_digit, is_letter
from suretexts.errors import BadText
from suretexts.readers import EMPTY, lot_of, lot_text
from suretexts.rings import is_ring

LONGEST_NAME = 8
MOST_DIGITS = 6
MOST_LISTED = 60
BETWEEN_LINES = "; "

DEEDS = ("lot", "read", "add", "take", "both", "copy", "drop", "claim", "forget")

# Of the words of a command, the kinds of the parts behind it. A new name and a fresh label are not in use, others are.
FORMS = {
    "lot": ("new", "count"),
    "read": ("new", "lines"),
    "add": ("name", "count", "text"),
    "take": ("name", "count", "text"),
    "both": ("new", "name", "name"),
    "copy": ("new", "name"),
    "drop": ("name",),
    "forget": ("label",),
    "undo": (),
    "redo": (),
    "state": ("label",),
    "states": (),
    "claimed": ("label",),
    "names": (),
    "show": ("name",),
    "same": ("name", "name"),
    "times": ("name", "text"),
    "pieces": ("name",),
    "solid": ("name", "count"),
    "contigs": ("name", "count"),
    "shortest": ("name", "count"),
    "rings": ("name", "count"),
    "explains": ("name", "count", "word"),
    "again": ("name",),
    "normal": ("word",),
    "column": ("word",),
    "ring": ("word",)}

# Of the words of claims, the kinds of the parts behind them.
CLAIMS = {
    "certain": ("name", "count", "word"),
    "doubtful": ("name", "count", "word"),
    "sure": ("name", "count", "list"),
    "loose": ("name", "count", "list"),
    "cheap": ("name", "count", "count"),
    "dear": ("name", "count", "count"),
    "close": ("name", "count"),
    "parted": ("name", "count")}


def is_name(value):
    """Whether any value is a name."""
    if not isinstance(value, str) or not is_between(len(value), 1, LONGEST_NAME) or not is_letter(value[0]):
        return False
    return all([is_letter(sign) or is_digit(sign) for sign in value])


def lot_shown(lot):
    """The lines of the lot's text, in one line."""
    return BETWEEN_LINES.join(lot_text(lot).split("\n")[:-1])


def _lot_of_lines(part):
    """The lot of which these are the lines, or None."""
    try:
        lot = lot_of("\n".join(part.split(BETWEEN_LINES)) + "\n")
    except BadText:
        return None
    # Line feeds may not stand where the signs between lines are to.
    return lot if lot_shown(lot) == part else None


def _list_of(part):
    """The list of the COUNTS between commas, or None."""
    counts = [count_of(signs, MOST_DIGITS) for signs in part.split(",")]
    return counts if len(counts) <= MOST_LISTED and all([count is not None for count in counts]) else None


def _handed_by(kind, part):
    """What a part of the kind hands over; None if it isn't of the kind."""
    if kind == "count":
        return count_of(part, MOST_DIGITS)
    if kind == "list":
        return _list_of(part)
    if kind == "lines":
        return _lot_of_lines(part)
    if kind == "text" and part == EMPTY:
        return ""
    if kind in ("text", "word"):
        return part if is_ring(part) else None
    return part if is_name(part) else None


def _kinds_of(parts):
    """The kinds of the parts behind the first one, or None."""
    if parts[0] != "claim":
        return FORMS.get(parts[0])
    if len(parts) < 3 or parts[2] not in CLAIMS:
        return None
    # The words of claims are like names.
    return ("fresh", "said") + CLAIMS[parts[2]]


def handed(value):
    """The list of the tuples (kind, what is handed over) of the parts of a command, or None of any other value."""
    if not isinstance(value, str):
        return None
    parts = value.split(" ", 2) if value.startswith("read ") else value.split(" ")
    kinds = _kinds_of(parts)
    if kinds is None or len(kinds) != len(parts) - 1:
        return None
    told = [(kind, _handed_by(kind, part)) for kind, part in zip(kinds, parts[1:])]
    return told if all([part is not None for _, part in told]) else None


def is_command(value):
    """Whether any value is a command, by its words alone."""
    return handed(value) is not None


def word_of(command):
    """The first word of a command."""
    return command.split(" ")[0]


def is_deed(value):
    """Whether any value is a deed."""
    return is_command(value) and word_of(value) in DEEDS
