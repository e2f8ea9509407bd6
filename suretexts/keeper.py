"""A keeper of readings: what is told of them is kept up as they come and go."""

from suretexts.basics import is_between, need_size
from suretexts.errors import InvalidLeast, NothingToRedo, NothingToUndo, TooMany
from suretexts.greatest import contigs
from suretexts.lots import Lot, with_reading, without_reading
from suretexts.parts import part_web, parts_of
from suretexts.pieced import MOST_PIECES, MOST_WORDS, words_of
from suretexts.pieces import PieceWeb

MOST_LEAST = 20


def _clusters_of(solid):
    """The sorted list of the clusters of solid pieces, some or none."""
    if solid == []:
        return []
    web = PieceWeb(solid).web()
    lots = [part_web(web, part)[1] for part in parts_of(web)]
    return sorted([[solid[tie] for tie in ties] for ties in lots if ties != []])


class Keeper:
    """A lot of readings, with its deeds, and the contigs of its solid pieces."""

    def __init__(self, size, least):
        need_size(size)
        if not is_between(least, 1, MOST_LEAST):
            raise InvalidLeast(least)
        self._size = size
        self._least = least
        # One lot more than deeds: each stands behind the deed that made it.
        self._lots = [Lot(size, [])]
        self._deeds = []
        self._done = 0
        self._kept = {}
        self._reckoned = 0

    @property
    def size(self):
        """The size of the lot's pieces."""
        return self._size

    def least(self):
        """How often a solid piece comes at least."""
        return self._least

    def _now(self):
        return self._lots[self._done]

    def _do(self, deed, lot):
        self._deeds = self._deeds[:self._done] + [deed]
        self._lots = self._lots[:self._done + 1] + [lot]
        self._done = self._done + 1

    def added(self, text, times):
        """Add a text so many times to the lot."""
        self._do(("added", text, times), with_reading(self._now(), text, times))

    def taken(self, text, times):
        """Take a text so many times out of the lot."""
        self._do(("taken", text, times), without_reading(self._now(), text, times))

    def undone(self):
        """Undo the last deed, and tell it."""
        if self._done == 0:
            raise NothingToUndo()
        self._done = self._done - 1
        return self._deeds[self._done]

    def redone(self):
        """Redo the last deed undone, and tell it."""
        if self._done == len(self._deeds):
            raise NothingToRedo()
        self._done = self._done + 1
        return self._deeds[self._done - 1]

    def lot(self):
        """The lot of the readings."""
        return self._now()

    def solid(self):
        """The sorted list of the solid pieces."""
        return self._now().solid(self._least)

    def log(self):
        """The list of the deeds that are not undone."""
        return self._deeds[:self._done]

    def clusters(self):
        """The sorted list of the clusters, lists of pieces."""
        solid = self.solid()
        if len(solid) > MOST_PIECES:
            raise TooMany("pieces", MOST_PIECES)
        if len(words_of(solid)) > MOST_WORDS:
            raise TooMany("words", MOST_WORDS)
        return _clusters_of(solid)

    def contigs(self):
        """The sorted list of the contigs, of which just those of new clusters are reckoned."""
        kept = {}
        reckoned = 0
        for cluster in self.clusters():
            key = tuple(cluster)
            if key in self._kept:
                kept[key] = self._kept[key]
            else:
                kept[key] = contigs(cluster)
                reckoned += 1
        self._kept = kept
        self._reckoned = self._reckoned + reckoned
        return sorted([contig for key in kept for contig in kept[key]])

    def reckoned(self):
        """How many clusters were reckoned so far."""
        return self._reckoned

    def copy(self):
        """A keeper that goes on apart, with all of it."""
        other = Keeper(self._size, self._least)
        other._lots = list(self._lots)
        other._deeds = list(self._deeds)
        other._done = self._done
        other._kept = {key: list(told) for key, told in self._kept.items()}
        other._reckoned = self._reckoned
        return other
