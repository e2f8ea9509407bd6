"""Webs folded at the places that everybody just passes."""

from suretexts.errors import InvalidFolding, TooMany
from suretexts.parts import is_single_ring, need_close
from suretexts.webs import LONGEST_WALK, Web, copied_web, need_walk, need_web


def _kept_places(web):
    # In a single ring all places are alike, so none is passed for another one.
    if is_single_ring(web):
        return list(range(web.places))
    return [place for place in range(web.places) if not _is_passed(web, place)]


def _is_passed(web, place):
    return len(web.ties_from(place)) == 1 and len(web.ties_to(place)) == 1


def _stretch_from(web, tie, kept):
    """The ties from this one on, through passed places, to the next kept place."""
    ties = web.ties()
    stretch = [tie]
    while ties[stretch[-1]][1] not in kept:
        place = ties[stretch[-1]][1]
        stretch.extend(web.ties_from(place))
    return stretch


def _folded_web(web, kept, stretches):
    ties = web.ties()
    anew = {place: at for at, place in enumerate(kept)}
    return Web(len(kept), [(anew[ties[stretch[0]][0]], anew[ties[stretch[-1]][1]]) for stretch in stretches])


class Folding:
    """A close web, and the folded one whose ties are its stretches."""

    def __init__(self, web):
        need_web(web)
        need_close(web)
        self._web = copied_web(web)
        self._kept = _kept_places(web)
        firsts = [tie for tie, ends in enumerate(web.ties()) if ends[0] in self._kept]
        self._stretches = [_stretch_from(web, tie, self._kept) for tie in firsts]
        self._folded = _folded_web(web, self._kept, self._stretches)

    def web(self):
        """The web that is folded."""
        return copied_web(self._web)

    def folded(self):
        """The folded web."""
        return copied_web(self._folded)

    def kept(self):
        """The rising list of the kept places."""
        return list(self._kept)

    def stretches(self):
        """For each tie of the folded web its stretch, a list of ties of the web."""
        return [list(stretch) for stretch in self._stretches]


def need_folding(folding):
    if not isinstance(folding, Folding):
        raise InvalidFolding(folding)


def unfolded(folding, walk):
    """The walk of the folded web, unfolded to one of the web."""
    need_folding(folding)
    need_walk(folding.folded(), walk)
    stretches = folding.stretches()
    ties = [tie for number in walk for tie in stretches[number]]
    if len(ties) > LONGEST_WALK:
        raise TooMany("ties", LONGEST_WALK)
    return ties


def folded_walk(folding, walk):
    """The tuple (folded walk of the walk, how many ties ahead of it, how many behind)."""
    need_folding(folding)
    need_walk(folding.web(), walk)
    stretches = folding.stretches()
    spots = {}
    for number, stretch in enumerate(stretches):
        for at, tie in enumerate(stretch):
            spots[tie] = (number, at)
    first, ahead = spots[walk[0]]
    last, at_last = spots[walk[-1]]
    # A walk comes to a further stretch just where it goes the stretch's first tie.
    further = [spots[tie][0] for tie in walk[1:] if spots[tie][1] == 0]
    return ([first] + further, ahead, len(stretches[last]) - 1 - at_last)
