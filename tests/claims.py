"""Whether claims are true, and which papers are theirs, by the words of points [9a4] and [9a5] alone."""

from suretexts.pieces import PieceWeb
from suretexts.rings import plain_begins
from tests.papers import is_rank_right, is_yes_right
from tests.prices import plain_least, plain_worth
from tests.webs import goes_round, is_lacking, plainly_close, plainly_sure

CONTRARIES = {"sure": "loose", "cheap": "dear", "close": "parted", "certain": "doubtful"}
CONTRARIES.update({other: word for word, other in list(CONTRARIES.items())})


def other_one(claim):
    return (CONTRARIES[claim[0]], *claim[1:])


def as_walk(claim):
    """The claim about a walk that a claim about a text is; None if the text has no walk."""
    shop = PieceWeb(claim[1])
    walk = shop.walk_of(claim[2])
    return None if walk is None else ({"certain": "sure", "doubtful": "loose"}[claim[0]], shop.web(), walk)


def is_plainly_so(claim):
    word = claim[0]
    if word in ("loose", "dear", "parted", "doubtful"):
        return not is_plainly_so(other_one(claim))
    if word == "certain":
        claim = as_walk(claim)
        return claim is not None and is_plainly_so(claim)
    if word == "sure":
        return plainly_sure(claim[1], list(claim[2]))
    if word == "cheap":
        return plain_least(claim[1], claim[2], 3)[0] <= claim[3]
    return plainly_close(claim[1])


def pieces_of(ring, size):
    return {(ring * (size + 1))[at:at + size] for at in range(len(ring))}


def is_covering(web, tour):
    return goes_round(web, tour) and set(tour) == set(range(web.many))


def is_paper_right(claim, paper):
    """Whether a paper of the kind that the claim wants shows it."""
    word, web = claim[:2]
    if word == "sure":
        return (is_rank_right if isinstance(paper, tuple) else is_yes_right)(web, claim[2], paper)
    if word == "loose":
        return is_lacking(web, paper, list(claim[2]))
    if word == "cheap":
        return is_covering(web, paper) and sum(claim[2][tie] for tie in paper) <= claim[3]
    if word == "dear":
        return plain_worth(web, claim[2], paper) is not None and plain_worth(web, claim[2], paper) > claim[3]
    if word == "close":
        return is_covering(web, paper) and {web.ties()[tie][0] for tie in paper} == set(range(web.places))
    if word == "parted":
        if web.places == 1 and web.many == 0:
            return paper == []
        return paper == sorted(set(paper)) and 0 < len(paper) < web.places and all(
            far in paper for near, far in web.ties() if near in paper)
    if word == "certain":
        claim = as_walk(claim)
        return claim is not None and is_yes_right(*claim[1:], paper)
    return pieces_of(paper, len(web[0])) == set(web) and plain_begins(paper, claim[2]) == []
