"""Lots of readings."""

from suretexts.basics import is_between, is_count, is_listed, need_size
from suretexts.errors import (
    FewTimes, InvalidLeast, InvalidLot, InvalidReadings, InvalidTimes, NotRead, TooMany, UnlikeSizes)
from suretexts.pieced import pieces_often
from suretexts.rings import is_text, need_text

MOST_READINGS = 60
MOST_TIMES = 1200


def is_times(value):
    """Whether any value is the times of one reading."""
    return is_between(value, 1, 20)


def are_readings(value):
    """Whether any value is a list of readings for a lot."""
    if not is_listed(value) or len(value) > MOST_READINGS:
        return False
    for reading in value:
        if not isinstance(reading, tuple) or len(reading) != 2:
            return False
        if not is_text(reading[0]) or not is_times(reading[1]):
            return False
    return True


class Lot:
    """Readings of texts, and the size of the pieces that are asked of them."""

    def __init__(self, size, readings):
        need_size(size)
        if not are_readings(readings):
            raise InvalidReadings(readings)
        self._size = size
        self._told = sorted(_times_together(readings).items())

    def __eq__(self, other):
        return isinstance(other, Lot) and self._size == other._size and self._told == other._told

    @property
    def size(self):
        """The size of the lot's pieces."""
        return self._size

    def readings(self):
        """The sorted list of the tuples (text, its times)."""
        return list(self._told)

    def times_of(self, text):
        """How often the text is read."""
        need_text(text)
        return dict(self._told).get(text, 0)

    def pieces(self):
        """The sorted list of the tuples (piece, how often it comes)."""
        return pieces_often(self._told, self._size)

    def solid(self, least):
        """The sorted list of the pieces that come at least so often."""
        if not is_count(least) or least < 1:
            raise InvalidLeast(least)
        return [piece for piece, times in self.pieces() if times >= least]


def need_lot(lot):
    if not isinstance(lot, Lot):
        raise InvalidLot(lot)


def need_times(times):
    if not is_times(times):
        raise InvalidTimes(times)


def _times_together(readings):
    together = {}
    for text, times in readings:
        together[text] = together.get(text, 0) + times
    return together


def lot_told(size, told):
    """The lot with these told readings, whose times may be above those of one reading."""
    if len(told) > MOST_READINGS:
        raise TooMany("readings", MOST_READINGS)
    for _, times in told:
        if times > MOST_TIMES:
            raise TooMany("times", MOST_TIMES)
    lot = Lot(size, [])
    lot._told = sorted(told)
    return lot


def _lot_with(lot, readings):
    together = _times_together(lot.readings() + readings)
    return lot_told(lot.size, list(together.items()))


def with_reading(lot, text, times):
    """The lot with this reading more."""
    need_lot(lot)
    need_text(text)
    need_times(times)
    return _lot_with(lot, [(text, times)])


def both_lots(lot, other):
    """The lot with the readings of either."""
    need_lot(lot)
    need_lot(other)
    if lot.size != other.size:
        raise UnlikeSizes()
    return _lot_with(lot, other.readings())


def without_reading(lot, text, times):
    """The lot with so many times of this text less."""
    need_lot(lot)
    need_text(text)
    need_times(times)
    read = lot.times_of(text)
    if read == 0:
        raise NotRead(text)
    if read < times:
        raise FewTimes()
    left = [reading for reading in lot.readings() if reading[0] != text]
    if read > times:
        left.append((text, read - times))
    return lot_told(lot.size, left)
