"""Covering rounds, and detours by which they lack a walk."""

from suretexts.cycles import starts_in
from suretexts.errors import InvalidAround, InvalidRound
from suretexts.parts import need_close
from suretexts.roads import leads_around
from suretexts.steps import closed_way
from suretexts.webs import covers, is_round, need_walk, need_web, web_steps

LONGEST_TOUR = 400


def some_round(web):
    """A covering round."""
    need_web(web)
    need_close(web)
    return closed_way(web_steps(web))


def _need_around(web, walk, around):
    if not leads_around(web, walk, around):
        raise InvalidAround(around)


def _need_covering(web, tour):
    if not is_round(web, tour) or len(tour) > LONGEST_TOUR or not covers(web, tour):
        raise InvalidRound(tour)


def detoured(web, walk, around, tour):
    """A covering round in which the walk does not stand.

    Wherever the ties from i - 1 to j of the walk stand, the road and then the
    ties from i on are gone ahead of the last one of them.
    """
    need_web(web)
    need_walk(web, walk)
    _need_around(web, walk, around)
    _need_covering(web, tour)
    need_close(web)
    i, j, road = around
    starts = starts_in(tour, walk[i - 1:j + 1])
    turns = [(start + j - i) % len(tour) for start in starts]
    ties = []
    for at, tie in enumerate(tour):
        ties.append(tie)
        if at in turns:
            ties.extend(list(road) + list(walk[i:j]))
    return ties
