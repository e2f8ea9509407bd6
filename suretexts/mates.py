"""Rounds by counts in which ties stand as far apart as mates tell."""

from suretexts.basics import is_below, is_between, is_listed
from suretexts.counted import all_rounds
from suretexts.cycles import starts_in
from suretexts.errors import InvalidMate, InvalidMates, NoRounds
from suretexts.prices import need_counts
from suretexts.webs import need_tour, need_walk, need_web

MOST_MATES = 20
MOST_APART = 60


def _is_mate(web, value):
    """Whether any value is a mate of the web."""
    if not isinstance(value, tuple) or len(value) != 4:
        return False
    near, far, least, most = value
    if not is_below(near, web.many) or not is_below(far, web.many):
        return False
    return is_between(most, 1, MOST_APART) and is_between(least, 1, most)


def _need_mates(web, mates):
    if not is_listed(mates) or len(mates) > MOST_MATES or not all([_is_mate(web, mate) for mate in mates]):
        raise InvalidMates(mates)


def _keeps(tour, mate):
    """Whether the round keeps the mate."""
    near, far, least, most = mate
    size = len(tour)
    # How often the tie far stands ahead of each position, and of those that are read on behind the end.
    ahead = [0]
    for at in range(size + most):
        ahead.append(ahead[-1] + (1 if tour[at % size] == far else 0))
    return any([ahead[at + least] < ahead[at + most + 1] for at in range(size) if tour[at] == near])


def _broken(tour, mates):
    return [at for at, mate in enumerate(mates) if not _keeps(tour, mate)]


def keeps_mate(web, tour, mate):
    """Whether the round keeps the mate."""
    need_web(web)
    need_tour(web, tour)
    if not _is_mate(web, mate):
        raise InvalidMate(mate)
    return _keeps(tour, mate)


def broken_mates(web, tour, mates):
    """The rising list of the positions of the mates that the round breaks."""
    need_web(web)
    need_tour(web, tour)
    _need_mates(web, mates)
    return _broken(tour, mates)


def _rounds_with_broken(web, counts, mates):
    """The list of the tuples (normal of a counted round, positions of the mates that it breaks)."""
    return [(tour, _broken(tour, mates)) for tour in all_rounds(web, counts)]


def _mated(web, counts, mates):
    return [tour for tour, broken in _rounds_with_broken(web, counts, mates) if broken == []]


def mated_rounds(web, counts, mates):
    """The sorted list of the normal mated rounds."""
    need_web(web)
    need_counts(web, counts)
    _need_mates(web, mates)
    return _mated(web, counts, mates)


def sure_mated(web, counts, mates, walk):
    """Whether the walk stands in each mated round."""
    need_web(web)
    need_counts(web, counts)
    _need_mates(web, mates)
    need_walk(web, walk)
    rounds = _mated(web, counts, mates)
    if rounds == []:
        raise NoRounds()
    return all([starts_in(tour, walk) != [] for tour in rounds])


def fewest_broken(web, counts, mates):
    """The tuple (fewest mates that a counted round breaks, the first normal that breaks so few)."""
    need_web(web)
    need_counts(web, counts)
    _need_mates(web, mates)
    told = [(len(broken), tour) for tour, broken in _rounds_with_broken(web, counts, mates)]
    if told == []:
        raise NoRounds()
    return min(told)


def needless_mates(web, counts, mates):
    """The rising list of the positions of the needless mates."""
    need_web(web)
    need_counts(web, counts)
    _need_mates(web, mates)
    # Without a mate just those rounds come in addition that break it, and no other one.
    alone = [broken for _, broken in _rounds_with_broken(web, counts, mates) if len(broken) == 1]
    return [at for at in range(len(mates)) if [at] not in alone]
