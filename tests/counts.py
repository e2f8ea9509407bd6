"""Rounds by counts, made one by one, and values that are no counts."""

from tests.support import HUGE, LISTS, NUMBERS, ODD, STRINGS
from tests.webs import CLOSE, FEW

# For a web of four ties.
WRONG_COUNT_LISTS = ODD + NUMBERS + STRINGS + LISTS + [
    "1111", [1], [1, 1, 1], (1, 1, 1), [1, 1, 1, 1, 1], [0, 1, 1, 1], [1, 1, 1, 13], (1, 13, 1, 1), [1, 1, -1, 1],
    [HUGE, 1, 1, 1], [True, 1, 1, 1], [1, 1, 1, True], [1, False, 1, 1], [1, 1, None, 1], [1, 1, 1, "1"], ["1"] * 4,
    [[1, 1, 1, 1]], [[1], 1, 1, 1], {0: 1, 1: 1, 2: 1, 3: 1}, [1] * 400]


def plain_ways(web, counts):
    """All lists in which each tie stands so often, and each leads to the next one, the last one to the first."""
    ties = web.ties()
    told = [[]]
    for _ in range(sum(counts)):
        told = [walk + [tie] for walk in told for tie in range(web.many) if walk.count(tie) < counts[tie]
                and (walk == [] or ties[walk[-1]][1] == ties[tie][0])]
    return [walk for walk in told if ties[walk[-1]][1] == ties[walk[0]][0]]


def turnings(tour):
    return [list(tour[at:]) + list(tour[:at]) for at in range(len(tour))]


def plain_rounds(web, counts):
    """The normals of all counted rounds, sorted."""
    return sorted(walk for walk in plain_ways(web, counts) if walk == min(turnings(walk)))


def some_counts(web, most):
    """All counts of at most so many ties in all, if they aren't too many."""
    told = [[]]
    for _ in range(web.many):
        told = [counts + [count] for counts in told for count in range(1, most - sum(counts) + 1)]
    return [counts for counts in told if sum(counts) <= most]


COUNTED = [(web, counts) for web in CLOSE for counts in some_counts(web, 6)]
COUNTED += [(web, counts) for web in FEW for counts in some_counts(web, web.many + 2)[::3]]
