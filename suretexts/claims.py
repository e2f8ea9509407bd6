"""Claims about webs and pieces, whether they are true, and papers of them."""

from suretexts.avoiding import lacking_round
from suretexts.basics import is_count, is_listed
from suretexts.detours import detoured, some_round
from suretexts.errors import InvalidClaim
from suretexts.flows import is_price_paper, price_paper
from suretexts.judges import is_no_paper, is_rank_paper, is_rising_lot, is_yes_paper
from suretexts.papers import no_paper, yes_paper
from suretexts.parts import is_close, reach
from suretexts.pieced import are_pieces, has_just
from suretexts.pieces import PieceWeb
from suretexts.prices import are_prices
from suretexts.rings import is_ring, is_text, stands_in
from suretexts.roads import is_sure, road_around
from suretexts.shortest import least_price, least_round, price_of, shortest_ring
from suretexts.webs import Web, covers, is_round, is_walk

WORDS = (("sure", "loose"), ("cheap", "dear"), ("close", "parted"), ("certain", "doubtful"))


def words():
    """The list of the tuples (word, its contrary)."""
    return list(WORDS)


def _row_of(value):
    """The first word of the row in which any value is one of the two words, or None."""
    for row in WORDS:
        if value in row:
            return row[0]
    return None


def _is_close_web(value):
    return isinstance(value, Web) and is_close(value)


def _are_walk_things(things):
    return len(things) == 2 and _is_close_web(things[0]) and is_walk(things[0], things[1])


def _are_price_things(things):
    if len(things) != 3 or not _is_close_web(things[0]) or not are_prices(things[0], things[1]):
        return False
    return is_count(things[2])


def _are_text_things(things):
    if len(things) != 2 or not are_pieces(things[0]) or not is_text(things[1]):
        return False
    return len(things[1]) >= len(things[0][0]) and is_close(PieceWeb(things[0]).web())


def _are_things(row, things):
    """Whether a tuple of any values is the things of the row."""
    if row == "sure":
        return _are_walk_things(things)
    if row == "cheap":
        return _are_price_things(things)
    if row == "close":
        return len(things) == 1 and isinstance(things[0], Web)
    return row == "certain" and _are_text_things(things)


def is_claim(value):
    """Whether any value is a claim."""
    return isinstance(value, tuple) and len(value) > 0 and _are_things(_row_of(value[0]), value[1:])


def _need_claim(claim):
    if not is_claim(claim):
        raise InvalidClaim(claim)


def _contrary_of(word):
    """The contrary of one of the words."""
    row = [both for both in WORDS if word in both][0]
    return row[1] if word == row[0] else row[0]


def contrary(claim):
    """The contrary of the claim, its lists new."""
    _need_claim(claim)
    things = [list(thing) if is_listed(thing) else thing for thing in claim[1:]]
    return (_contrary_of(claim[0]), *things)


def _walk_of(things):
    """The tuple (web, walk) of pieces and a text; the walk is None if some piece of the text is not there."""
    pieceweb = PieceWeb(things[0])
    return (pieceweb.web(), pieceweb.walk_of(things[1]))


def _is_certain(things):
    web, walk = _walk_of(things)
    return walk is not None and is_sure(web, walk)


def _is_so(row, things):
    """Whether the claim of the row's first word is true."""
    if row == "sure":
        return is_sure(things[0], things[1])
    if row == "cheap":
        return least_price(things[0], things[1]) <= things[2]
    return is_close(things[0]) if row == "close" else _is_certain(things)


def is_true(claim):
    """Whether the claim is true."""
    _need_claim(claim)
    row = _row_of(claim[0])
    return _is_so(row, claim[1:]) == (claim[0] == row)


def _shut_lot(web):
    """A lot that shows that the web isn't close."""
    for place in range(web.places):
        lot = reach(web, place, [])
        if len(lot) < web.places:
            return lot
    return []


def _short_round_without(web, walk, tour):
    """The shorter one of two covering rounds that lack the walk, which isn't sure: one by detours of this round."""
    return min([detoured(web, walk, road_around(web, walk), tour), lacking_round(web, walk)], key=len)


def _ring_without(pieces, text):
    """A ring that explains the pieces, and in which the text, which is doubtful, isn't read."""
    ring = shortest_ring(pieces)
    if not stands_in(ring, text):
        return ring
    # The text is read in a ring that explains, so it has a walk.
    pieceweb = PieceWeb(pieces)
    return pieceweb.ring_of(_short_round_without(pieceweb.web(), pieceweb.walk_of(text), pieceweb.round_of(ring)))


def _paper_for(row, things):
    """A paper of the claim of the row's first word, which is true."""
    if row == "sure":
        return yes_paper(things[0], things[1])
    if row == "cheap":
        return least_round(things[0], things[1])
    if row == "close":
        return some_round(things[0])
    web, walk = _walk_of(things)
    return yes_paper(web, walk)


def _paper_against(row, things):
    """A paper of the contrary, which is true."""
    if row == "sure":
        return no_paper(things[0], things[1])
    if row == "cheap":
        return price_paper(things[0], things[1])
    return _shut_lot(things[0]) if row == "close" else _ring_without(things[0], things[1])


def paper_of(claim):
    """A paper of the claim, or None."""
    if not is_true(claim):
        return None
    row = _row_of(claim[0])
    return _paper_for(row, claim[1:]) if claim[0] == row else _paper_against(row, claim[1:])


def _covers(web, value):
    """Whether any value is a covering round."""
    return is_round(web, value) and covers(web, value)


def _is_round_at_all_places(web, value):
    """Whether any value is a covering round that stands at each place."""
    if not _covers(web, value):
        return False
    ties = web.ties()
    return len(set([ties[tie][0] for tie in value])) == web.places


def _is_shut_lot(web, value):
    """Whether any value is a lot that shows that the web isn't close."""
    if not is_rising_lot(web, value):
        return False
    if web.places == 1 and web.many == 0:
        return len(value) == 0
    if not 0 < len(value) < web.places:
        return False
    return all([far in value for near, far in web.ties() if near in value])


def _is_ring_without(pieces, text, value):
    return is_ring(value) and has_just(value, pieces) and not stands_in(value, text)


def _is_certain_paper(things, value):
    web, walk = _walk_of(things)
    return walk is not None and is_yes_paper(web, walk, value)


def _is_paper_for(row, things, value):
    """Whether any value is a paper of the claim of the row's first word."""
    if row == "sure":
        web, walk = things
        return is_yes_paper(web, walk, value) or is_rank_paper(web, walk, value)
    if row == "cheap":
        web, prices, many = things
        return _covers(web, value) and price_of(web, prices, value) <= many
    return _is_round_at_all_places(things[0], value) if row == "close" else _is_certain_paper(things, value)


def _is_paper_against(row, things, value):
    """Whether any value is a paper of the contrary."""
    if row == "sure":
        return is_no_paper(things[0], things[1], value)
    if row == "cheap":
        return is_price_paper(things[0], things[1], value, things[2] + 1)
    return _is_shut_lot(things[0], value) if row == "close" else _is_ring_without(things[0], things[1], value)


def is_paper_of(claim, value):
    """Whether any value is a paper of the claim."""
    _need_claim(claim)
    row = _row_of(claim[0])
    if claim[0] == row:
        return _is_paper_for(row, claim[1:], value)
    return _is_paper_against(row, claim[1:], value)
