"""What all rounds by counts have in common."""

from suretexts.counted import all_rounds, counted_round, normal_round
from suretexts.cycles import starts_in
from suretexts.errors import InvalidTie, NotCounted
from suretexts.numbers import are_balanced, how_many
from suretexts.prices import need_counts
from suretexts.webs import need_tie, need_tour, need_walk, need_web


def _need_counted(web, counts):
    if not are_balanced(web, counts):
        raise NotCounted()


def _need_walk_of_counted(web, counts, walk):
    need_web(web)
    need_counts(web, counts)
    need_walk(web, walk)
    _need_counted(web, counts)


def times_in(web, tour, walk):
    """How many times the walk stands in the round."""
    need_web(web)
    need_tour(web, tour)
    need_walk(web, walk)
    return len(starts_in(tour, walk))


def times_counted(web, counts, walk):
    """The tuple of the least and the most times of the walk in counted rounds."""
    _need_walk_of_counted(web, counts, walk)
    if len(walk) == 1:
        return (counts[walk[0]], counts[walk[0]])
    times = [len(starts_in(tour, walk)) for tour in all_rounds(web, counts)]
    return (min(times), max(times))


def sure_counted(web, counts, walk):
    """Whether the walk stands in every counted round."""
    return times_counted(web, counts, walk)[0] > 0


def lacking_counted(web, counts, walk):
    """The first of all normals in which the walk doesn't stand, or None."""
    _need_walk_of_counted(web, counts, walk)
    if len(walk) == 1:
        return None
    for tour in all_rounds(web, counts):
        if starts_in(tour, walk) == []:
            return tour
    return None


def _are_joined(ties):
    """Whether all these ties (from, to) hang together; balanced ones then come to each other."""
    seen = {ties[0][0]: True}
    grown = True
    while grown:
        grown = False
        for near, far in ties:
            if (near in seen) != (far in seen):
                seen[near] = True
                seen[far] = True
                grown = True
    return all([near in seen for near, _ in ties])


def _can_follow(web, counts, tie, later, times):
    """Whether the unlike later tie can follow the tie so many times, as one new tie in the place of both."""
    ties = web.ties()
    left = list(counts)
    left[tie] = left[tie] - times
    left[later] = left[later] - times
    gone = [ties[number] for number, count in enumerate(left) if count > 0]
    return _are_joined(gone + [(ties[tie][0], ties[later][1])])


def _most_next(web, counts, tie, later):
    if tie == later:
        # Only where nothing else is gone does the last one of them lead on to the first one.
        return counts[tie] if web.many == 1 else counts[tie] - 1
    for times in range(min(counts[tie], counts[later]), 0, -1):
        if _can_follow(web, counts, tie, later, times):
            return times
    return 0


def _need_later(web, tie, later):
    need_tie(web, later)
    if web.ties()[later][0] != web.ties()[tie][1]:
        raise InvalidTie(later)


def most_next(web, counts, tie, later):
    """How many times, at most, the tie is followed by the later one in a counted round."""
    need_web(web)
    need_counts(web, counts)
    need_tie(web, tie)
    _need_later(web, tie, later)
    _need_counted(web, counts)
    return _most_next(web, counts, tie, later)


def _only_next(web, counts, tie):
    """The tie by which this one is always followed, or None."""
    onward = web.ties_from(web.ties()[tie][1])
    able = [later for later in onward if _most_next(web, counts, tie, later) > 0]
    return able[0] if len(able) == 1 else None


def always_next(web, counts):
    """For each tie the tie by which it is always followed, or None."""
    need_web(web)
    need_counts(web, counts)
    _need_counted(web, counts)
    return [_only_next(web, counts, tie) for tie in range(web.many)]


def only_round(web, counts):
    """The normal of the counted round if there is just one, else None."""
    need_web(web)
    need_counts(web, counts)
    _need_counted(web, counts)
    return normal_round(web, counted_round(web, counts)) if how_many(web, counts) == 1 else None
