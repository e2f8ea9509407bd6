"""Papers that show of walks that they are sure, or that they are not."""

from suretexts.avoiding import lacking_round
from suretexts.errors import TooMany
from suretexts.greatest import sure_walks
from suretexts.parts import need_walk_of_close
from suretexts.roads import is_sure, road_between
from suretexts.steps import parts_in_turn
from suretexts.tables import table

MOST_PAPER_TIES = 60
MOST_STANDINGS = 400
MOST_LOOSE = 300


def _need_short(walk):
    if len(walk) > MOST_PAPER_TIES:
        raise TooMany("ties", MOST_PAPER_TIES)


def _least_lot(web, first, last):
    """The places to which ties but these lead on from where the tie last begins."""
    ties = web.ties()
    seen = {}
    waiting = [ties[last][0]]
    while waiting != []:
        onward = web.ties_from(waiting.pop())
        for tie in onward:
            end = ties[tie][1]
            if tie != first and tie != last and end not in seen:
                seen[end] = True
                waiting.append(end)
    return sorted(seen)


def _least_lots(web, walk):
    size = len(walk)
    return [(i, j, _least_lot(web, walk[i - 1], walk[j])) for i in range(1, size) for j in range(i, size)]


def yes_paper(web, walk):
    """The yes paper of the walk with the least lots, or None."""
    need_walk_of_close(web, walk)
    _need_short(walk)
    return _least_lots(web, walk) if is_sure(web, walk) else None


def no_paper(web, walk):
    """A no paper of the walk, or None."""
    return lacking_round(web, walk)


def _come_from_start(web, walk):
    """The tuple (standings, steps) of all that comes by steps from (0, 0).

    The standings are in the sequence in which they came, the steps tell them
    by their positions.
    """
    ties = web.ties()
    rows = table(web, walk)
    positions = {(0, 0): 0}
    line = [(0, 0)]
    steps = []
    at = 0
    while at < len(line):
        place, state = line[at]
        for tie in web.ties_from(place):
            standing = (ties[tie][1], rows[state][tie])
            if standing[1] == len(walk):
                continue
            if standing not in positions:
                positions[standing] = len(line)
                line.append(standing)
            steps.append((at, positions[standing], tie))
        at += 1
    return (line, steps)


def _ties_within(parts, steps):
    """For each part the dict of the ties of the steps within."""
    numbers = {at: number for number, part in enumerate(parts) for at in part}
    within = [{} for _ in parts]
    for near, far, tie in steps:
        if numbers[near] == numbers[far]:
            within[numbers[near]][tie] = True
    return within


def rank_paper(web, walk):
    """A right rank paper of the walk, or None."""
    need_walk_of_close(web, walk)
    standings, steps = _come_from_start(web, walk)
    if len(standings) > MOST_STANDINGS:
        raise TooMany("standings", MOST_STANDINGS)
    # Each part gets a greater number than those to which it leads.
    parts = parts_in_turn(len(standings), steps)[::-1]
    within = _ties_within(parts, steps)
    ranks = []
    numbers = []
    for number, part in enumerate(parts):
        missing = [tie for tie in range(web.many) if tie not in within[number]]
        if missing == []:
            return None
        ranks.extend([(standings[at], number) for at in part])
        numbers.append((number, missing[0]))
    return (sorted(ranks), numbers)


def _loose_walks(web, walks):
    """The unlike walks that aren't sure, but all of whose shorter stretches are."""
    ties = web.ties()
    found = []
    for walk in walks:
        for at, tie in enumerate(walk):
            for more in web.ties_from(ties[tie][1]):
                loose = _shortest_loose(web, walk[:at + 1], more)
                if loose is not None and loose not in found:
                    found.append(loose)
    return sorted(found)


def _shortest_loose(web, walk, tie):
    """The shortest ending of the sure walk that isn't sure with the tie behind it, with this, or None."""
    for at in range(len(walk) - 1, -1, -1):
        if road_between(web, walk[at], tie) is not None:
            return walk[at:] + [tie]
    return None


def _with_road(web, walk):
    """The tuple (walk, road around) of a walk that is spoilt by its first and its last tie."""
    return (walk, (1, len(walk) - 1, road_between(web, walk[0], walk[-1])))


def all_paper(web):
    """An all paper of the web."""
    walks = sure_walks(web)
    for walk in walks:
        _need_short(walk)
    loose = _loose_walks(web, walks)
    if len(loose) > MOST_LOOSE:
        raise TooMany("loose", MOST_LOOSE)
    return ([(walk, _least_lots(web, walk)) for walk in walks], [_with_road(web, walk) for walk in loose])
