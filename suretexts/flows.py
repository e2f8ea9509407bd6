"""What covering rounds need besides each tie once, by prices of ties and of places."""

from suretexts.basics import is_count, is_integer, is_listed
from suretexts.errors import InvalidMany
from suretexts.parts import need_close
from suretexts.prices import need_prices, sent_out, taken_in
from suretexts.webs import need_web

# Greater than how many extras there can be, so that one price more is more than all of them.
OVER_EXTRAS = 10000


def _need_prices_of_close(web, prices):
    need_web(web)
    need_prices(web, prices)
    need_close(web)


def _wanted(web):
    """For each place how many more ties lead from it than to it."""
    once = [1] * web.many
    out, came = sent_out(web, once), taken_in(web, once)
    return [out[place] - came[place] for place in range(web.places)]


def _moves(web, prices, extras):
    """The tuples (from, to, price, tie, change) by which extras can change: one more, or one less."""
    moves = []
    for tie, (near, far) in enumerate(web.ties()):
        moves.append((near, far, prices[tie], tie, 1))
        if extras[tie] > 0:
            moves.append((far, near, -prices[tie], tie, -1))
    return moves


def _cheapest(places, moves, starts):
    """For each place the least sum of prices from a start, and the last move on the way, or None."""
    sums = [None] * places
    by = [None] * places
    for place in starts:
        sums[place] = 0
    changed = True
    while changed:
        changed = False
        for move in moves:
            near, far, price = move[0], move[1], move[2]
            if sums[near] is not None and (sums[far] is None or sums[near] + price < sums[far]):
                sums[far] = sums[near] + price
                by[far] = move
                changed = True
    return (sums, by)


def _way_to(place, by):
    """The moves on the way to the place from a start."""
    moves = []
    while by[place] is not None:
        moves.append(by[place])
        place = by[place][0]
    return moves


def extras_of(web, prices):
    """Extras of a least round, a list.

    Where more ties lead to a place than from it, extras set out, one after the
    other, by the cheapest way to a place of the other kind.
    """
    _need_prices_of_close(web, prices)
    both = [price * OVER_EXTRAS + 1 for price in prices]
    extras = [0] * web.many
    wanted = _wanted(web)
    while max(wanted) > 0:
        starts = [place for place, many in enumerate(wanted) if many < 0]
        sums, by = _cheapest(web.places, _moves(web, both, extras), starts)
        ends = [(sums[place], place) for place, many in enumerate(wanted) if many > 0]
        moves = _way_to(min(ends)[1], by)
        for move in moves:
            extras[move[3]] = extras[move[3]] + move[4]
        wanted[moves[0][1]] = wanted[moves[0][1]] - 1
        wanted[moves[-1][0]] = wanted[moves[-1][0]] + 1
    return extras


def price_paper(web, prices):
    """Prices of places whose worth is the least price."""
    extras = extras_of(web, prices)
    # Ties with extras can be gone back at their price, so they cost just what their places differ by.
    return _cheapest(web.places, _moves(web, prices, extras), [0])[0]


def _are_prices_of_places(web, prices, value):
    """Whether any value is prices of places."""
    if not is_listed(value) or len(value) != web.places:
        return False
    if not all([is_integer(price) for price in value]):
        return False
    return all([value[far] - value[near] <= prices[tie] for tie, (near, far) in enumerate(web.ties())])


def worth(web, prices, value):
    """The worth of any value as prices of places, or None."""
    _need_prices_of_close(web, prices)
    if not _are_prices_of_places(web, prices, value):
        return None
    return sum(prices) + sum([value[place] * many for place, many in enumerate(_wanted(web))])


def is_price_paper(web, prices, value, many):
    """Whether any value is a price paper for the COUNT many."""
    need_web(web)
    need_prices(web, prices)
    if not is_count(many):
        raise InvalidMany(many)
    told = worth(web, prices, value)
    return told is not None and told >= many
