"""Which papers are right, by the words of points [4b1] to [4b4] alone, for papers of the right kinds."""

from tests.test_roads import leads_around
from tests.test_tables import rows
from tests.webs import come_to


def pairs_of(walk):
    return [(i, j) for i in range(1, len(walk)) for j in range(i, len(walk))]


def least_lot(web, walk, i, j):
    """The places to which ties but these lead on from place(j), by sets."""
    ties = web.ties()
    onward = {place: {far for tie, (near, far) in enumerate(ties) if near == place and tie not in (walk[i - 1], walk[j])}
              for place in range(web.places)}
    start = ties[walk[j]][0]
    return sorted(set().union(*[come_to(onward, far) for far in onward[start]]))


def is_lot_right(web, walk, i, j, lot):
    ties = web.ties()
    starts = [ties[walk[j]][0]] + list(lot)
    return list(lot) == sorted(set(lot)) and ties[walk[i]][0] not in lot and all(
        far in lot for tie, (near, far) in enumerate(ties) if near in starts and tie not in (walk[i - 1], walk[j]))


def is_yes_right(web, walk, paper):
    return [(i, j) for i, j, _ in paper] == pairs_of(walk) and all(is_lot_right(web, walk, *row) for row in paper)


def is_rank_right(web, walk, paper):
    ranks, numbers = paper
    number_of, tie_of = dict(ranks), dict(numbers)
    if list(ranks) != sorted(ranks) or len(number_of) < len(ranks) or (0, 0) not in number_of:
        return False
    if list(numbers) != sorted(numbers) or len(tie_of) < len(numbers) or set(tie_of) != set(number_of.values()):
        return False
    table = rows(web, list(walk))
    for (place, state), number in ranks:
        for tie in web.ties_from(place):
            end = (web.ties()[tie][1], table[state][tie])
            if end[1] < len(walk):
                if end not in number_of or number_of[end] > number:
                    return False
                if number_of[end] == number and tie == tie_of[number]:
                    return False
    return True


def stretches_of(walks):
    return {tuple(walk[at:end]) for walk in walks for at in range(len(walk)) for end in range(at + 1, len(walk) + 1)}


def is_all_right(web, paper):
    sure, loose = paper
    for told in paper:
        firsts = [list(walk) for walk, _ in told]
        if firsts != sorted(firsts) or any(firsts.count(walk) > 1 for walk in firsts):
            return False
    if not all(is_yes_right(web, walk, yes) for walk, yes in sure):
        return False
    if not all(len(walk) > 1 and leads_around(web, walk, *around) for walk, around in loose):
        return False
    walks, ends = [tuple(walk) for walk, _ in sure], [tuple(walk) for walk, _ in loose]
    if any(walk != other and walk in stretches_of([other]) for walk in walks for other in walks):
        return False
    told = stretches_of(walks)
    longer = [walk + (tie,) for walk in told for tie in web.ties_from(web.ties()[walk[-1]][1])]
    return {tie for walk in walks for tie in walk} == set(range(web.many)) and all(
        walk in told or any(walk[-len(end):] == end for end in ends) for walk in longer)
