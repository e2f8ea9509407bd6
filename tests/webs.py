"""Webs for the tests, and what is so of them by the plainest reckoning."""

from itertools import product

from suretexts.webs import Web


def small_webs(places, most):
    """All webs with so many places and at most so many ties."""
    ends = list(product(range(places), repeat=2))
    return [Web(places, ties) for many in range(most + 1) for ties in product(ends, repeat=many)]


SMALL = small_webs(1, 3) + small_webs(2, 4) + small_webs(3, 3)

# Two rings at one place, three places in a line and back, an eye, a long ring with a short cut, loops.
FEW = [
    Web(3, [(0, 1), (1, 0), (0, 2), (2, 0)]),
    Web(3, [(0, 1), (1, 2), (2, 1), (1, 0)]),
    Web(5, [(0, 1), (0, 2), (1, 3), (2, 3), (3, 4), (4, 0), (1, 2)]),
    Web(6, [(5, 0), (0, 1), (1, 2), (2, 3), (3, 4), (4, 5), (2, 5)]),
    Web(4, [(3, 3), (3, 2), (2, 1), (1, 0), (0, 3), (3, 3), (1, 1)]),
    Web(4, [(0, 1), (1, 2), (2, 0), (0, 1), (2, 3), (3, 2)]),
]


def comes_to(web, without=()):
    """For each place the set of the places to which one comes from it."""
    reached = [{place} for place in range(web.places)]
    for _ in range(web.places):
        for number, (near, far) in enumerate(web.ties()):
            if number not in without:
                for places in reached:
                    if near in places:
                        places.add(far)
    return reached


def plainly_close(web):
    return web.many > 0 and all(len(places) == web.places for places in comes_to(web))


def walks(web, longest):
    """All walks of at most so many ties."""
    ties = web.ties()
    told = last = [[tie] for tie in range(web.many)]
    for _ in range(longest - 1):
        last = [walk + [tie] for walk in last for tie in range(web.many) if ties[tie][0] == ties[walk[-1]][1]]
        told = told + last
    return told


def rounds(web, longest):
    """All rounds of at most so many ties."""
    ties = web.ties()
    return [walk for walk in walks(web, longest) if ties[walk[0]][0] == ties[walk[-1]][1]]


CLOSE = [web for web in SMALL if plainly_close(web)]

# Webs that aren't close, each with a walk: a place without a tie, a way out, two rings apart, a line.
OPEN = [
    (Web(2, [(0, 0), (0, 0)]), [0, 1]), (Web(2, [(0, 0), (0, 1)]), [0, 1]), (Web(2, [(0, 0), (1, 1)]), [0]),
    (Web(3, [(0, 1), (1, 2)]), [0, 1]), (Web(3, [(0, 1), (1, 0), (1, 2)]), [0, 1, 0, 2]),
    (Web(60, [(0, 0)]), [0])]


def reads(tour, walk):
    """Whether the walk is read in the round, from some place on."""
    size = len(tour)
    return any(all(tour[(at + k) % size] == tie for k, tie in enumerate(walk)) for at in range(size))


def goes_round(web, tour):
    """Whether a list is a round of the web."""
    ties = web.ties()
    return type(tour) is list and 0 < len(tour) <= 200000 and all(
        ties[tour[at]][0] == ties[tour[at - 1]][1] for at in range(len(tour)))


def is_lacking(web, tour, walk):
    """Whether a list is a covering round of the web in which the walk is not read."""
    return goes_round(web, tour) and set(tour) == set(range(web.many)) and not reads(tour, walk)


def windows_without(web, walk):
    """The ties of each lot of closed ways without the walk.

    Who goes along looks back through a window, at as many ties as the walk has
    but one, so sees of each tie whether the walk is whole by it.
    """
    ties, size = web.ties(), len(walk)
    if size == 1:
        moves = {(near, far, tie) for tie, (near, far) in enumerate(ties) if tie != walk[0]}
    else:
        moves = {(tuple(read[:-1]), tuple(read[1:]), read[-1])
                 for read in walks(web, size) if len(read) == size and read != list(walk)}
    onward = {}
    for near, far, _ in moves:
        onward.setdefault(near, set()).add(far)
        onward.setdefault(far, set())
    reached = {start: come_to(onward, start) for start in onward}
    lots = {}
    for near, far, tie in moves:
        if near in reached[far]:
            lots.setdefault(frozenset(one for one in reached[far] if far in reached[one]), set()).add(tie)
    return list(lots.values())


def come_to(onward, start):
    seen, waiting = {start}, [start]
    while waiting:
        for far in onward[waiting.pop()] - seen:
            seen.add(far)
            waiting.append(far)
    return seen


def plainly_sure(web, walk):
    """Whether the walk is in each covering round, by windows."""
    return all(len(ties) < web.many for ties in windows_without(web, walk))
