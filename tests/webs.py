"""Webs for the tests, and what is so of them by the plainest reckoning."""

from itertools import product

from suretexts.webs import Web


def small_webs(places, most):
    """All webs with so many places and at most so many ties."""
    ends = list(product(range(places), repeat=2))
    return [Web(places, ties) for many in range(most + 1) for ties in product(ends, repeat=many)]


SMALL = small_webs(1, 3) + small_webs(2, 4) + small_webs(3, 3)

# Two rings at one place, three places in a line and back, an eye, a long ring with a short cut, loops.
FEW = [
    Web(3, [(0, 1), (1, 0), (0, 2), (2, 0)]),
    Web(3, [(0, 1), (1, 2), (2, 1), (1, 0)]),
    Web(5, [(0, 1), (0, 2), (1, 3), (2, 3), (3, 4), (4, 0), (1, 2)]),
    Web(6, [(5, 0), (0, 1), (1, 2), (2, 3), (3, 4), (4, 5), (2, 5)]),
    Web(4, [(3, 3), (3, 2), (2, 1), (1, 0), (0, 3), (3, 3), (1, 1)]),
    Web(4, [(0, 1), (1, 2), (2, 0), (0, 1), (2, 3), (3, 2)]),
]


def comes_to(web, without=()):
    """For each place the set of the places to which one comes from it."""
    reached = [{place} for place in range(web.places)]
    for _ in range(web.places):
        for number, (near, far) in enumerate(web.ties()):
            if number not in without:
                for places in reached:
                    if near in places:
                        places.add(far)
    return reached


def plainly_close(web):
    return web.many > 0 and all(len(places) == web.places for places in comes_to(web))


def walks(web, longest):
    """All walks of at most so many ties."""
    ties = web.ties()
    told = last = [[tie] for tie in range(web.many)]
    for _ in range(longest - 1):
        last = [walk + [tie] for walk in last for tie in range(web.many) if ties[tie][0] == ties[walk[-1]][1]]
        told = told + last
    return told


def rounds(web, longest):
    """All rounds of at most so many ties."""
    ties = web.ties()
    return [walk for walk in walks(web, longest) if ties[walk[0]][0] == ties[walk[-1]][1]]


CLOSE = [web for web in SMALL if plainly_close(web)]
