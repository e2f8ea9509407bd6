"""All greatest sure walks of a web, with the simple ones and the fork walks, and contigs."""

from suretexts.errors import EndlessWalks, TooMany
from suretexts.folds import Folding
from suretexts.parts import is_single_ring, need_close, part_web, parts_of
from suretexts.pieced import need_pieces
from suretexts.pieces import PieceWeb
from suretexts.rings import normal
from suretexts.roads import road_between
from suretexts.webs import LONGEST_WALK, is_stretch, need_walk, need_web

MOST_WALKS = 300


def need_endings(web):
    """Raise what is told of webs in which no walk is a greatest one."""
    need_web(web)
    need_close(web)
    if is_single_ring(web):
        raise EndlessWalks()


def _spoilt_pairs(web):
    """The tuples (first, last) of ties such that a road leads around all walks between them."""
    ties = range(web.many)
    return [(first, last) for first in ties for last in ties if road_between(web, first, last) is not None]


def _as_bits(many, pairs):
    """For each tie the ties that stand behind it in the pairs, as the bits of a number."""
    bits = [0] * many
    for tie, other in pairs:
        bits[tie] = bits[tie] | 1 << other
    return bits


def _walks_from(web, tie, spoilt_ahead):
    """The tuples (walk, its ties as bits) of the sure walks from the tie on that go on no more."""
    ties = web.ties()
    found = []
    waiting = [([tie], 1 << tie)]
    while waiting != []:
        walk, bits = waiting.pop()
        onward = [more for more in web.ties_from(ties[walk[-1]][1]) if spoilt_ahead[more] & bits == 0]
        if onward == []:
            found.append((walk, bits))
        elif len(walk) == LONGEST_WALK:
            raise TooMany("ties", LONGEST_WALK)
        for more in onward:
            waiting.append((walk + [more], bits | 1 << more))
    return found


def sure_walks(web):
    """The sorted list of the greatest sure walks."""
    need_endings(web)
    pairs = _spoilt_pairs(web)
    spoilt_ahead = _as_bits(web.many, [(last, first) for first, last in pairs])
    spoilt_behind = _as_bits(web.many, pairs)
    found = []
    for tie in range(web.many):
        ahead = web.ties_to(web.ties()[tie][0])
        for walk, bits in _walks_from(web, tie, spoilt_ahead):
            if all([spoilt_behind[more] & bits != 0 for more in ahead]):
                found.append(walk)
    if len(found) > MOST_WALKS:
        raise TooMany("walks", MOST_WALKS)
    return sorted(found)


def simple_walks(web):
    """The sorted list of the greatest simple walks."""
    need_endings(web)
    # All inner places of a stretch are passed ones, and its ends are kept ones.
    return sorted(Folding(web).stretches())


def _is_fork(web, place):
    return len(web.ties_from(place)) > 1


def _is_join(web, place):
    return len(web.ties_to(place)) > 1


def _forced_around(web, tie):
    """The tie with all that is forced ahead of it and behind it."""
    ties = web.ties()
    walk = [tie]
    while not _is_fork(web, ties[walk[-1]][1]):
        walk = walk + web.ties_from(ties[walk[-1]][1])
    while not _is_join(web, ties[walk[0]][0]):
        walk = web.ties_to(ties[walk[0]][0]) + walk
    return walk


def _is_shorter_one(walk, walks):
    """Whether the walk is a stretch of a longer one of the walks."""
    return any([len(walk) < len(other) and is_stretch(walk, other) for other in walks])


def fork_walks(web):
    """The sorted list of the greatest fork walks."""
    need_endings(web)
    forced = []
    for tie in range(web.many):
        walk = _forced_around(web, tie)
        if walk not in forced:
            forced.append(walk)
    return sorted([walk for walk in forced if not _is_shorter_one(walk, forced)])


def _inner_places(web, walk):
    ties = web.ties()
    return [ties[tie][0] for tie in walk[1:]]


def is_simple_walk(web, walk):
    """Whether the walk is simple, of any web."""
    need_web(web)
    need_walk(web, walk)
    return not any([_is_fork(web, place) or _is_join(web, place) for place in _inner_places(web, walk)])


def is_fork_walk(web, walk):
    """Whether the walk is a fork walk, of any web."""
    need_web(web)
    need_walk(web, walk)
    joined = False
    for place in _inner_places(web, walk):
        joined = joined or _is_join(web, place)
        if joined and _is_fork(web, place):
            return False
    return True


def contigs(pieces):
    """The sorted list of the contigs of the pieces."""
    need_pieces(pieces)
    pieceweb = PieceWeb(pieces)
    web = pieceweb.web()
    found = []
    for part in parts_of(web):
        within, numbers = part_web(web, part)
        found.extend(_contigs_of_part(within, [pieceweb.pieces()[number] for number in numbers]))
    return sorted(found)


def _contigs_of_part(web, pieces):
    """The contigs of a part's web, of which these are the pieces of the ties."""
    if web.many == 0:
        return []
    if is_single_ring(web):
        return [(normal(_letters_along(pieces, _once_around(web))), True)]
    return [(pieces[walk[0]][:-1] + _letters_along(pieces, walk), False) for walk in sure_walks(web)]


def _letters_along(pieces, ties):
    return "".join([pieces[tie][-1] for tie in ties])


def _once_around(web):
    """The ties of a single ring, from the first one on."""
    tour = [0]
    while len(tour) < web.many:
        tour.extend(web.ties_from(web.ties()[tour[-1]][1]))
    return tour
