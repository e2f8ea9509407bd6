"""Rounds in which each tie stands as often as counts tell."""

from suretexts.cycles import least_start
from suretexts.errors import NotCounted, TooMany
from suretexts.numbers import are_balanced, how_many
from suretexts.parts import is_close
from suretexts.prices import need_counts, round_with
from suretexts.webs import is_round, need_tour, need_web

MOST_ROUNDS = 1000


def is_counted(web, counts):
    """Whether there is a counted round."""
    need_web(web)
    need_counts(web, counts)
    return are_balanced(web, counts)


def counted_round(web, counts):
    """A counted round."""
    if not is_counted(web, counts):
        raise NotCounted()
    return round_with(web, counts)


def is_counted_round(web, counts, value):
    """Whether any value is a counted round, normal or not."""
    need_web(web)
    need_counts(web, counts)
    if not is_close(web) or not is_round(web, value):
        return False
    return _often(web, value) == list(counts)


def _often(web, ties):
    often = [0] * web.many
    for tie in ties:
        often[tie] += 1
    return often


def _normal(tour):
    at = least_start(tour)
    return list(tour[at:]) + list(tour[:at])


def normal_round(web, tour):
    """The least turning of any round of the web."""
    need_web(web)
    need_tour(web, tour)
    return _normal(tour)


def _are_all_ahead(web, place, left):
    """Whether each tie that is left can be come to from the place, by ties that are left."""
    ties = web.ties()
    seen = {place: True}
    waiting = [place]
    while waiting != []:
        onward = web.ties_from(waiting.pop())
        for tie in onward:
            if left[tie] > 0 and ties[tie][1] not in seen:
                seen[ties[tie][1]] = True
                waiting.append(ties[tie][1])
    return all([left[tie] == 0 or near in seen for tie, (near, _) in enumerate(ties)])


def _can_be_least(ties):
    """Whether no later ties among these are less than the first ones, as far as they go."""
    starts = [at for at, tie in enumerate(ties) if tie == ties[0]]
    return all([ties[at:] >= ties[:len(ties) - at] for at in starts])


def _gone_on(web, counts, beginning):
    """The beginnings that have one tie more and can be gone on with to a counted round."""
    ties = web.ties()
    often = _often(web, beginning)
    longer = []
    for tie in web.ties_from(ties[beginning[-1]][1]):
        left = [count - often[other] for other, count in enumerate(counts)]
        left[tie] = left[tie] - 1
        more = beginning + [tie]
        if left[tie] >= 0 and _can_be_least(more) and _are_all_ahead(web, ties[tie][1], left):
            longer.append(more)
    return longer


def all_rounds(web, counts):
    """The sorted list of the normals of all counted rounds."""
    number = how_many(web, counts)
    if number > MOST_ROUNDS:
        raise TooMany("rounds", MOST_ROUNDS)
    if number == 0:
        return []
    # A normal begins with the least tie of all, and each tie stands in each round.
    rounds = [[0]]
    for _ in range(sum(counts) - 1):
        rounds = [more for beginning in rounds for more in _gone_on(web, counts, beginning)]
    return sorted([tour for tour in rounds if _normal(tour) == tour])
