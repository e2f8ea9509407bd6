"""Prices and counts of ties, and rounds in which each tie stands so often."""

from suretexts.basics import is_between, is_listed
from suretexts.errors import InvalidCounts, InvalidPrices

HIGHEST_PRICE = 20
HIGHEST_COUNT = 12
MOST_COUNTED = 60


def _is_for_each_tie(web, value, most):
    """Whether any value is a list with a COUNT from 1 to the most for each tie."""
    if not is_listed(value) or len(value) != web.many:
        return False
    return all([is_between(number, 1, most) for number in value])


def are_prices(web, value):
    """Whether any value is prices for the web."""
    return _is_for_each_tie(web, value, HIGHEST_PRICE)


def need_prices(web, prices):
    if not are_prices(web, prices):
        raise InvalidPrices(prices)


def need_counts(web, counts):
    if not _is_for_each_tie(web, counts, HIGHEST_COUNT) or sum(counts) > MOST_COUNTED:
        raise InvalidCounts(counts)


def sent_out(web, often):
    """For each place how often the ties that lead from it are gone, all together."""
    out = [0] * web.places
    for tie, (near, _) in enumerate(web.ties()):
        out[near] = out[near] + often[tie]
    return out


def taken_in(web, often):
    """For each place how often the ties that lead to it are gone, all together."""
    came = [0] * web.places
    for tie, (_, far) in enumerate(web.ties()):
        came[far] = came[far] + often[tie]
    return came


def round_with(web, often):
    """A round in which each tie of a close web stands so often, at each place as many in as out.

    One goes on as long as a tie is left, and is back where one began; then, one
    by one, the last ties gone are told, where nothing is left to go on with.
    """
    ties = web.ties()
    left = [[tie for tie in web.ties_from(place) for _ in range(often[tie])] for place in range(web.places)]
    told = []
    trail = [left[0].pop()]
    while trail != []:
        place = ties[trail[-1]][1]
        if left[place] != []:
            trail.append(left[place].pop())
        else:
            told.append(trail.pop())
    return told[::-1]
