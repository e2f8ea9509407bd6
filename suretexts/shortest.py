"""Covering rounds of the least price, and shortest rings of pieces."""

from heapq import heappop, heappush

from suretexts.errors import TooMany
from suretexts.flows import extras_of
from suretexts.parts import need_close
from suretexts.pieces import PieceWeb
from suretexts.prices import need_prices, round_with
from suretexts.webs import need_tour, need_web

MOST_PLAIN_TIES = 10


def least_price(web, prices):
    """The least price, by extras."""
    extras = extras_of(web, prices)
    return sum([price * (1 + extras[tie]) for tie, price in enumerate(prices)])


def plain_least_price(web, prices):
    """The least price, by all standings (place, which ties were gone)."""
    need_web(web)
    need_prices(web, prices)
    need_close(web)
    if web.many > MOST_PLAIN_TIES:
        raise TooMany("ties", MOST_PLAIN_TIES)
    ties = web.ties()
    # The ties that were gone are the bits of a number.
    home = (0, (1 << web.many) - 1)
    waiting = [(0, 0, 0)]
    told = {}
    while home not in told:
        price, place, gone = heappop(waiting)
        if (place, gone) in told:
            continue
        told[(place, gone)] = price
        for tie in web.ties_from(place):
            heappush(waiting, (price + prices[tie], ties[tie][1], gone | 1 << tie))
    return told[home]


def price_of(web, prices, tour):
    """The price of a round of whatever web."""
    need_web(web)
    need_prices(web, prices)
    need_tour(web, tour)
    return sum([prices[tie] for tie in tour])


def least_round(web, prices):
    """A least round."""
    return round_with(web, [1 + extra for extra in extras_of(web, prices)])


def shortest_ring(pieces):
    """A shortest ring of the pieces; a round that is too long for one has no ring."""
    pieceweb = PieceWeb(pieces)
    return pieceweb.ring_of(least_round(pieceweb.web(), [1] * len(pieces)))


def shortest_length(pieces):
    """How many letters a shortest ring of the pieces has."""
    return least_price(PieceWeb(pieces).web(), [1] * len(pieces))
