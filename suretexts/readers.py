"""Lots of readings as texts of lines."""

from suretexts.basics import count_of, is_between, is_size
from suretexts.errors import BadText
from suretexts.lots import MOST_READINGS, MOST_TIMES, lot_told, need_lot
from suretexts.rings import is_text

EMPTY = "-"
# As many as the most times have.
MOST_DIGITS = 4


def lot_text(lot):
    """The text of the lot."""
    need_lot(lot)
    lines = [f"size {lot.size}\n"]
    for text, times in lot.readings():
        lines.append(f"read {times} {text or EMPTY}\n")
    return "".join(lines)


def lot_of(text):
    """The lot that has the text."""
    if not isinstance(text, str):
        raise BadText(None)
    *lines, rest = text.split("\n")
    told = []
    for at, line in enumerate(lines):
        if not _is_right(line, at, told):
            raise BadText(at)
        if at > 0:
            told.append(_reading_of(line))
    if rest != "" or lines == []:
        raise BadText(len(lines))
    return lot_told(_size_of(lines[0]), told)


def _is_right(line, at, told):
    """Whether the line is right behind lines that told these readings."""
    if at == 0:
        return _size_of(line) is not None
    reading = _reading_of(line)
    if reading is None or len(told) == MOST_READINGS:
        return False
    return told == [] or told[-1][0] < reading[0]


def _size_of(line):
    """The size that a first line tells; None if the line is wrong."""
    words = line.split(" ")
    if len(words) != 2 or words[0] != "size":
        return None
    size = count_of(words[1], MOST_DIGITS)
    return size if is_size(size) else None


def _reading_of(line):
    """The told reading of a further line; None if the line is wrong by itself."""
    words = line.split(" ")
    if len(words) != 3 or words[0] != "read" or words[2] == "":
        return None
    times = count_of(words[1], MOST_DIGITS)
    text = "" if words[2] == EMPTY else words[2]
    if not is_between(times, 1, MOST_TIMES) or not is_text(text):
        return None
    return (text, times)
