"""Webs of places and ties, and their walks and rounds."""

from suretexts.basics import is_below, is_between, is_listed
from suretexts.cycles import starts_in
from suretexts.errors import (
    InvalidPlace, InvalidPlaces, InvalidRound, InvalidTie, InvalidTies, InvalidWalk, InvalidWeb)

MOST_PLACES = 60
MOST_TIES = 80
LONGEST_WALK = 400
LONGEST_ROUND = 200000


def are_ties(places, value):
    """Whether any value is a list of ties for a web with so many places."""
    if not is_listed(value) or len(value) > MOST_TIES:
        return False
    for tie in value:
        if not isinstance(tie, tuple) or len(tie) != 2:
            return False
        if not is_below(tie[0], places) or not is_below(tie[1], places):
            return False
    return True


class Web:
    """Places, and numbered ties that lead from place to place."""

    def __init__(self, places, ties):
        if not is_between(places, 1, MOST_PLACES):
            raise InvalidPlaces(places)
        if not are_ties(places, ties):
            raise InvalidTies(ties)
        self._places = places
        self._ties = list(ties)
        self._ties_from = [[] for _ in range(places)]
        self._ties_to = [[] for _ in range(places)]
        for tie, ends in enumerate(self._ties):
            self._ties_from[ends[0]].append(tie)
            self._ties_to[ends[1]].append(tie)

    def __eq__(self, other):
        return isinstance(other, Web) and self._places == other._places and self._ties == other._ties

    @property
    def places(self):
        """How many places there are."""
        return self._places

    @property
    def many(self):
        """How many ties there are."""
        return len(self._ties)

    def ties(self):
        """The list of the ties, tuples (from, to)."""
        return list(self._ties)

    def ties_from(self, place):
        """The rising list of the numbers of the ties from the place."""
        need_place(self, place)
        return list(self._ties_from[place])

    def ties_to(self, place):
        """The rising list of the numbers of the ties to the place."""
        need_place(self, place)
        return list(self._ties_to[place])


def need_web(web):
    if not isinstance(web, Web):
        raise InvalidWeb(web)


def need_place(web, place):
    if not is_below(place, web.places):
        raise InvalidPlace(place)


def need_tie(web, tie):
    if not is_below(tie, web.many):
        raise InvalidTie(tie)


def are_numbers(web, value):
    """Whether any value is a list of numbers of the web's ties, perhaps empty."""
    if not is_listed(value):
        return False
    for tie in value:
        if not is_below(tie, web.many):
            return False
    return True


def _go_on(web, value, longest):
    """Whether any value is a list of up to so many ties, each where the last one led."""
    if not is_listed(value) or not is_between(len(value), 1, longest) or not are_numbers(web, value):
        return False
    ties = web.ties()
    for at in range(1, len(value)):
        if ties[value[at]][0] != ties[value[at - 1]][1]:
            return False
    return True


def is_walk(web, value):
    """Whether any value is a walk of the web."""
    need_web(web)
    return _go_on(web, value, LONGEST_WALK)


def is_round(web, value):
    """Whether any value is a round of the web."""
    need_web(web)
    if not _go_on(web, value, LONGEST_ROUND):
        return False
    ties = web.ties()
    return ties[value[0]][0] == ties[value[-1]][1]


def need_walk(web, walk):
    if not is_walk(web, walk):
        raise InvalidWalk(walk)


def need_tour(web, tour):
    if not is_round(web, tour):
        raise InvalidRound(tour)


def leads(web, walk):
    """The tuple of the places from which and to which the walk leads."""
    need_web(web)
    need_walk(web, walk)
    ties = web.ties()
    return (ties[walk[0]][0], ties[walk[-1]][1])


def covers(web, tour):
    """Whether each tie of the web stands in the round."""
    need_web(web)
    need_tour(web, tour)
    return len(set(tour)) == web.many


def walk_in_round(web, tour, walk):
    """Whether the walk stands in the round, read round and round."""
    need_web(web)
    need_tour(web, tour)
    need_walk(web, walk)
    return len(starts_in(tour, walk)) > 0


def is_stretch(walk, other):
    """Whether the walk is a stretch of the other one, or this one itself."""
    size = len(walk)
    return walk in [other[at:at + size] for at in range(len(other) - size + 1)]


def copied_web(web):
    """A new web that is equal."""
    return Web(web.places, web.ties())


def web_steps(web):
    """The ties as steps, tuples (from, to, tie)."""
    return [(near, far, tie) for tie, (near, far) in enumerate(web.ties())]


def back_web(web):
    """The web with each tie turned about."""
    need_web(web)
    return Web(web.places, [(far, near) for near, far in web.ties()])
