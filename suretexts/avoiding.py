"""Rounds that lack a walk, found by reading along them: the plain reckoning of what is sure."""

from suretexts.parts import need_walk_of_close
from suretexts.steps import closed_way, parts_in_turn
from suretexts.tables import table


def _standings(web, walk):
    """All standings, sorted: a state above 0 tells its place."""
    ties = web.ties()
    behind = [(ties[walk[state - 1]][1], state) for state in range(1, len(walk))]
    return sorted([(place, 0) for place in range(web.places)] + behind)


def _steps(web, walk, standings):
    """All steps between the standings, by their positions, sorted."""
    ties = web.ties()
    rows = table(web, walk)
    positions = {standing: at for at, standing in enumerate(standings)}
    steps = []
    for at, (place, state) in enumerate(standings):
        for tie in web.ties_from(place):
            if rows[state][tie] < len(walk):
                steps.append((at, positions[(ties[tie][1], rows[state][tie])], tie))
    return sorted(steps)


def product(web, walk):
    """The tuple (list of the standings, list of the steps)."""
    need_walk_of_close(web, walk)
    standings = _standings(web, walk)
    return (standings, _steps(web, walk, standings))


def _parts_with_steps(web, walk):
    """The sorted list of the tuples (positions of a part's standings, its steps)."""
    standings, steps = product(web, walk)
    lots = parts_in_turn(len(standings), steps)
    numbers = {at: number for number, lot in enumerate(lots) for at in lot}
    within = [[] for _ in lots]
    for step in steps:
        if numbers[step[0]] == numbers[step[1]]:
            within[numbers[step[0]]].append(step)
    return sorted([(lot, within[number]) for number, lot in enumerate(lots) if within[number] != []])


def _ties_of(steps):
    return sorted(set([step[2] for step in steps]))


def parts_without(web, walk):
    """The sorted list of the tuples (positions of a part's standings, its ties)."""
    return [(lot, _ties_of(within)) for lot, within in _parts_with_steps(web, walk)]


def is_sure_plain(web, walk):
    """Whether the walk is sure, since no part has all ties."""
    return all([len(ties) < web.many for _, ties in parts_without(web, walk)])


def lacking_round(web, walk):
    """A covering round in which the walk does not stand, or None."""
    for _, within in _parts_with_steps(web, walk):
        if len(_ties_of(within)) == web.many:
            return closed_way(within)
    return None


def is_sure_in_lots(web, walk):
    """Whether the walk is sure in lots, since some tie is of no part."""
    in_parts = [tie for _, ties in parts_without(web, walk) for tie in ties]
    return len(set(in_parts)) < web.many


def lacking_lot(web, walk):
    """A list of rounds that together cover, none with the walk, or None."""
    if is_sure_in_lots(web, walk):
        return None
    return [closed_way(within) for _, within in _parts_with_steps(web, walk)]
