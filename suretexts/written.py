"""COUNTS, words, None, lists and tuples, written as strings, and read sign by sign."""

from suretexts.basics import is_digit, is_letter

MOST_DIGITS = 30
EMPTY = "-"
CLOSING = {"[": "]", "(": ")"}


def thing_written(thing):
    """A thing that is nested a few deep, written."""
    if thing is None:
        return EMPTY
    if isinstance(thing, list):
        return "[" + " ".join([thing_written(part) for part in thing]) + "]"
    if isinstance(thing, tuple):
        return "(" + " ".join([thing_written(part) for part in thing]) + ")"
    return str(thing)


def _behind_token(text, at):
    """The position behind the longest COUNT, word or None that begins at this one; the same if none does."""
    if text[at] == "0" or text[at] == EMPTY:
        return at + 1
    end = at
    if is_digit(text[at]):
        while end < len(text) and is_digit(text[end]) and end < at + MOST_DIGITS:
            end += 1
    while end < len(text) and not is_digit(text[at]) and is_letter(text[end]):
        end += 1
    return end


def _thing_of(token):
    if token == EMPTY:
        return None
    return int(token) if is_digit(token[0]) else token


class Reading:
    """What was read so far of a written thing: the things within each bracket that lacks its end, and around them.

    A thing is wanted at the begin, behind an opening bracket and behind a blank.
    """

    def __init__(self):
        self.closings = []
        self.things = [[]]
        self.wanted = True

    def take(self, thing):
        """Take a whole thing, where one is wanted."""
        self.things[-1].append(thing)
        self.wanted = False

    def opens(self, sign):
        """Take an opening bracket, or tell that it can't be."""
        if not self.wanted or sign not in CLOSING:
            return False
        self.closings.append(CLOSING[sign])
        self.things.append([])
        return True

    def closes(self, sign):
        """Take a closing bracket, or tell that it can't be."""
        if self.closings == [] or sign != self.closings[-1]:
            return False
        # Behind a blank a thing is to come.
        if self.wanted and self.things[-1] != []:
            return False
        self.closings.pop()
        within = self.things.pop()
        self.take(within if sign == "]" else tuple(within))
        return True

    def goes_on(self, sign):
        """Take a blank behind a thing within brackets, or tell that it can't be."""
        if self.closings == [] or self.wanted or sign != " ":
            return False
        self.wanted = True
        return True

    def is_whole(self):
        """Whether just one thing was read, and nothing lacks."""
        return self.closings == [] and not self.wanted


def reading_of(text):
    """The tuple (None, thing) of the text of a written thing, else (unread position, None)."""
    reading = Reading()
    at = 0
    while at < len(text):
        sign = text[at]
        end = _behind_token(text, at)
        if reading.wanted and end > at:
            reading.take(_thing_of(text[at:end]))
            at = end
        elif reading.opens(sign) or reading.closes(sign) or reading.goes_on(sign):
            at += 1
        else:
            return (at, None)
    return (None, reading.things[0][0]) if reading.is_whole() else (at, None)
