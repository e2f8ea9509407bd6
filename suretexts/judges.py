"""Judges of papers: they take any value, and search for nothing."""

from suretexts.basics import is_below, is_count, is_listed
from suretexts.parts import is_close
from suretexts.roads import leads_around
from suretexts.tables import table
from suretexts.webs import covers, is_round, is_stretch, is_walk, need_walk, need_web, walk_in_round


def _is_tuple_of(many, value):
    return isinstance(value, tuple) and len(value) == many


def _is_rising(values):
    return all([values[at - 1] < values[at] for at in range(1, len(values))])


def is_rising_lot(web, value):
    """Whether any value is a rising list of places."""
    return is_listed(value) and all([is_below(place, web.places) for place in value]) and _is_rising(value)


def _is_shut(web, lot, place, barred):
    """Whether no tie but the barred ones leads out of the lot, nor from the place past it."""
    ties = web.ties()
    for here in [place] + list(lot):
        for tie in web.ties_from(here):
            if tie not in barred and ties[tie][1] not in lot:
                return False
    return True


def _is_lot_around(web, walk, i, j, lot):
    if not is_rising_lot(web, lot):
        return False
    ties = web.ties()
    return ties[walk[i]][0] not in lot and _is_shut(web, lot, ties[walk[j]][0], (walk[i - 1], walk[j]))


def _shows_sure(web, walk, value):
    """Whether any value is a yes paper of the walk."""
    pairs = [(i, j) for i in range(1, len(walk)) for j in range(i, len(walk))]
    if not is_listed(value) or len(value) != len(pairs):
        return False
    for at, row in enumerate(value):
        if not _is_tuple_of(3, row) or not is_count(row[0]) or not is_count(row[1]):
            return False
        if (row[0], row[1]) != pairs[at] or not _is_lot_around(web, walk, row[0], row[1], row[2]):
            return False
    return True


def is_yes_paper(web, walk, value):
    """Whether any value is a yes paper of the walk."""
    need_web(web)
    need_walk(web, walk)
    return is_close(web) and _shows_sure(web, walk, value)


def is_no_paper(web, walk, value):
    """Whether any value is a no paper of the walk."""
    need_web(web)
    need_walk(web, walk)
    if not is_close(web) or not is_round(web, value):
        return False
    return covers(web, value) and not walk_in_round(web, value, walk)


def _are_ranks(web, walk, value):
    """Whether any value is a rising list of tuples (standing, number), (0, 0) among the standings."""
    if not is_listed(value) or len(value) == 0:
        return False
    for row in value:
        if not _is_tuple_of(2, row) or not _is_tuple_of(2, row[0]) or not is_count(row[1]):
            return False
        if not is_below(row[0][0], web.places) or not is_below(row[0][1], len(walk)):
            return False
    # No standing comes twice, so the standings alone rise; and (0, 0) is the least of all.
    return _is_rising([row[0] for row in value]) and value[0][0] == (0, 0)


def _are_numbered(web, numbers, value):
    """Whether any value is a list of tuples (number, tie), one for each of the numbers, in their sequence."""
    if not is_listed(value) or len(value) != len(numbers):
        return False
    for at, row in enumerate(value):
        if not _is_tuple_of(2, row) or not is_count(row[0]) or not is_below(row[1], web.many):
            return False
        if row[0] != numbers[at]:
            return False
    return True


def _steps_in_table(web, walk, standing, rows):
    """The tuples (standing to which a step leads, its tie)."""
    ties = web.ties()
    place, state = standing
    steps = [((ties[tie][1], rows[state][tie]), tie) for tie in web.ties_from(place)]
    return [step for step in steps if step[0][1] < len(walk)]


def _are_steps_right(web, walk, number_of, tie_of):
    """Whether no step leaves the ranks, or rises, or stays at a number by the number's tie."""
    rows = table(web, walk)
    for standing, number in number_of.items():
        for end, tie in _steps_in_table(web, walk, standing, rows):
            if end not in number_of or number_of[end] > number:
                return False
            if number_of[end] == number and tie_of[number] == tie:
                return False
    return True


def is_rank_paper(web, walk, value):
    """Whether any value is a right rank paper of the walk."""
    need_web(web)
    need_walk(web, walk)
    if not is_close(web) or not _is_tuple_of(2, value) or not _are_ranks(web, walk, value[0]):
        return False
    numbers = sorted(set([row[1] for row in value[0]]))
    if not _are_numbered(web, numbers, value[1]):
        return False
    number_of = {standing: number for standing, number in value[0]}
    return _are_steps_right(web, walk, number_of, {number: tie for number, tie in value[1]})


def _are_walks_with(web, value):
    """Whether any value is a list of tuples (walk, whatever), the walks rising."""
    if not is_listed(value):
        return False
    for row in value:
        if not _is_tuple_of(2, row) or not is_walk(web, row[0]):
            return False
    return _is_rising([list(row[0]) for row in value])


def _are_sure(web, value):
    """Whether any value is a rising list of tuples (walk, yes paper)."""
    return _are_walks_with(web, value) and all([_shows_sure(web, walk, paper) for walk, paper in value])


def _are_loose(web, value):
    """Whether any value is a rising list of tuples (walk of two ties or more, road around)."""
    # A walk of one tie has no road around it.
    return _are_walks_with(web, value) and all([leads_around(web, walk, around) for walk, around in value])


def _none_in_another(walks):
    return all([walk == other or not is_stretch(walk, other) for walk in walks for other in walks])


def _ahead_of_ties(walks):
    """For each tie in the walks the list of what stands ahead of it, wherever it stands."""
    ahead = {}
    for walk in walks:
        for at, tie in enumerate(walk):
            ahead.setdefault(tie, []).append(walk[:at])
    return ahead


def _alike_at_end(walk, other):
    """How many last ties the two lists have in common."""
    many = 0
    while many < min(len(walk), len(other)) and walk[-1 - many] == other[-1 - many]:
        many += 1
    return many


def _ends_loose(walk, loose):
    return any([walk[-len(end):] == end for end in loose])


def _are_all_told(web, walks, loose):
    """Whether each stretch with a tie behind it is in one of the walks, or ends with a loose one.

    If a stretch with a tie is in one of the walks, so is each shorter ending of
    it with this tie; if it ends with a loose one, so does each longer one. So
    only the shortest one that is in no walk is looked at.
    """
    ties = web.ties()
    ahead = _ahead_of_ties(walks)
    for walk in walks:
        for at, last in enumerate(walk):
            for tie in web.ties_from(ties[last][1]):
                many = max([_alike_at_end(walk[:at + 1], other) for other in ahead[tie]])
                if many <= at and not _ends_loose(walk[at - many:at + 1] + [tie], loose):
                    return False
    return True


def is_all_paper(web, value):
    """Whether any value is an all paper of the web."""
    need_web(web)
    if not is_close(web) or not _is_tuple_of(2, value):
        return False
    if not _are_sure(web, value[0]) or not _are_loose(web, value[1]):
        return False
    walks = [list(row[0]) for row in value[0]]
    loose = [list(row[0]) for row in value[1]]
    if len(set([tie for walk in walks for tie in walk])) < web.many:
        return False
    return _none_in_another(walks) and _are_all_told(web, walks, loose)
