"""Points [9a4] to [9a6]: claims, contraries, papers."""

import unittest
from itertools import product

from suretexts.avoiding import lacking_round
from suretexts.claims import contrary, is_claim, is_paper_of, is_true, paper_of, words
from suretexts.detours import detoured
from suretexts.errors import InvalidClaim, TooMany
from suretexts.papers import rank_paper
from suretexts.pieced import ring_pieces
from suretexts.pieces import PieceWeb
from suretexts.rings import begins, normal
from suretexts.roads import road_around
from suretexts.shortest import shortest_ring
from suretexts.webs import Web
from tests import support
from tests.claims import CONTRARIES, is_paper_right, is_plainly_so, other_one, pieces_of
from tests.prices import some_prices
from tests.support import HUGE, LISTS, NUMBERS, ODD, STRINGS, as_tuples, changed, check_fails, check_parameters
from tests.test_keeper import Steps
from tests.test_pieced import PIECES_60_WORDS, PIECES_61_WORDS, PIECES_81, SIXTY
from tests.webs import CLOSE, FEW, OPEN, SMALL, walks

EYES = Web(1, [(0, 0), (0, 0)])
PAIR = Web(2, [(0, 1), (1, 0)])
SHOP = ["ab", "ba", "ac", "ca"]
RING = Web(60, [(at, (at + 1) % 60) for at in range(60)])
# Each of 18 ways from ab to yz is gone with the long way home from there: 432 letters at least.
HOME = "yzzuuvuwuxvvwvxwwxxuaab"
LONG = [piece for letter in "cdefghijklmnopqrst" for piece in ("ab" + letter, "b" + letter + "y", letter + "yz")]
LONG += [HOME[at:at + 3] for at in range(len(HOME) - 2)]

GOOD = [("sure", EYES, [0, 1]), ("loose", EYES, [0, 1]), ("cheap", PAIR, [2, 3], 5), ("dear", PAIR, [2, 3], 4),
        ("close", EYES), ("parted", Web(2, [(0, 1)])), ("certain", SHOP, "bac"), ("doubtful", SHOP, "bab")]
NEVER = [True, False, None, -1, -HUGE, "a b", "A", [None], {}, b"ab", [[]], (True,), support.OTHER]
WRONG_CLAIMS = ODD + NUMBERS + STRINGS + LISTS + [other for claim in GOOD for other in changed(claim, NEVER)]
WRONG_CLAIMS += [claim + (0,) for claim in GOOD] + [claim[:-1] for claim in GOOD] + [list(claim) for claim in GOOD]
WRONG_CLAIMS += [("plain", *claim[1:]) for claim in GOOD] + [
    ("sure", Web(2, [(0, 1)]), [0]), ("loose", Web(1, []), [0]), ("sure", Web(2, [(0, 0)]), [0]), ("sure", EYES, []),
    ("sure", PAIR, [0, 0]), ("sure", EYES, [0] * 401), ("sure", EYES, [2]), ("loose", SHOP, "ab"),
    ("cheap", PAIR, [2], 5),
    ("cheap", PAIR, [2, 3, 1], 5), ("dear", PAIR, [0, 3], 5), ("dear", PAIR, [2, 21], 5), ("cheap", PAIR, 5, [2, 3]),
    ("dear", Web(2, [(0, 1)]), [1], 5), ("cheap", PAIR, [2, 3], "5"), ("close", [(0, 1)]), ("close", SHOP), ("close",),
    ("parted", EYES, []), ("certain", ["ab"], "ab"), ("doubtful", ["ab", "cd"], "ab"), ("certain", ["aa", "ab"], "aa"),
    ("certain", SHOP, "a"), ("doubtful", SHOP, ""), ("certain", ["aab", "aba", "baa"], "ab"),
    ("certain", SHOP, "ab" * 201),
    ("certain", SHOP + ["abc"], "bac"), ("certain", SHOP + ["ab"], "bac"), ("certain", [], "ab"),
    ("certain", "ab", "ab"),
    ("doubtful", PIECES_81, "ab"), ("doubtful", PIECES_61_WORDS, "abcd"), ("certain", SHOP, ["bac"]),
    ("certain", PAIR, [0])]


def some_claims():
    """Claims of all words, over small webs and pieces."""
    told = [("close", web) for web in SMALL[::3] + FEW + [web for web, _ in OPEN] + [RING, Web(1, []), Web(60, [])]]
    for at, web in enumerate(CLOSE[::5] + FEW):
        told += [("sure", web, walk) for walk in walks(web, 4)[at % 3::3]]
        if web.many < 6:
            for prices in some_prices(web)[at % 2::2]:
                least = sum(prices)
                told += [("cheap", web, prices, many) for many in (0, least - 1, least, least + 1, 2 * least,
                    9 * least)]
    for pieces in (SHOP, ["aa", "ab", "ba"], ["ab", "ba"], ["aab", "aba", "baa", "abb", "bba"], ["a" * 8]):
        size = len(pieces[0])
        told += [("certain", pieces, "".join(text)) for many in range(size, max(size, 4) + 1)
                 for text in product("abc", repeat=many) if many < 5 or "".join(text) == "a" * 8]
    return told


CLAIMS = some_claims()


class Words(unittest.TestCase):
    def test_words(self):
        wanted = [("sure", "loose"), ("cheap", "dear"), ("close", "parted"), ("certain", "doubtful")]
        self.assertEqual(words(), wanted)
        words().append(7)
        self.assertEqual(words(), wanted)

    def test_contraries(self):
        for claim in CLAIMS[::5] + GOOD:
            for told in (claim, tuple(tuple(part) if isinstance(part, list) else part for part in claim)):
                other = contrary(told)
                self.assertEqual(other, other_one(claim))
                self.assertEqual(contrary(other), claim)
                self.assertEqual(type(other), tuple)

    def test_new_lists(self):
        for claim in GOOD:
            shown = repr(claim)
            for part in contrary(claim):
                if isinstance(part, list):
                    part.append(7)
            self.assertEqual(repr(claim), shown)


class Claims(unittest.TestCase):
    def test_claims(self):
        for claim in CLAIMS[::3] + GOOD:
            for told in (claim, other_one(claim)):
                self.assertIs(is_claim(told), True)
                self.assertIs(is_claim(value=tuple(tuple(part) if isinstance(part, list) else part for part in told)),
                              True)

    def test_any_value(self):
        for value in WRONG_CLAIMS:
            shown = repr(value)
            with self.subTest(value=value):
                self.assertIs(is_claim(value), False)
                self.assertEqual(repr(value), shown)

    def test_great_counts(self):
        for word, wanted in (("cheap", True), ("dear", False)):
            self.assertEqual([is_claim((word, PAIR, [2, 3], HUGE)), is_true((word, PAIR, [2, 3], HUGE))],
                             [True, wanted])
            self.assertEqual([is_claim((word, PAIR, [2, 3], 0)), is_true((word, PAIR, [2, 3], 0))], [True, not wanted])

    def test_limits(self):
        self.assertIs(is_claim(("certain", PIECES_60_WORDS, SIXTY[:4])), True)
        self.assertIs(is_claim(("certain", SHOP, "ab" * 200)), True)
        self.assertIs(is_claim(("sure", EYES, [0] * 400)), True)
        self.assertIs(is_claim(("parted", Web(60, []))), True)


class Truth(unittest.TestCase):
    def test_plainly(self):
        for claim in CLAIMS:
            for told in (claim, other_one(claim)):
                with self.subTest(claim=told):
                    self.assertIs(is_true(told), is_plainly_so(told))

    def test_just_one_of_both(self):
        for claim in CLAIMS + GOOD:
            self.assertEqual(is_true(claim), not is_true(contrary(claim)))
            self.assertEqual(paper_of(claim) is None, not is_true(claim))

    def test_texts_in_all_rings(self):
        rings = ["".join(letters) for many in range(1, 9) for letters in product("ab", repeat=many)]
        for pieces in (["aa", "ab", "ba"], ["aab", "aba", "baa", "abb", "bba"], ["aa", "ab", "ba", "bb"], ["ab", "ba"]):
            size = len(pieces[0])
            explaining = [ring for ring in rings if pieces_of(ring, size) == set(pieces) and ring == normal(ring)]
            for text in rings:
                if size <= len(text) <= 6 and is_true(("certain", pieces, text)):
                    self.assertTrue(all(begins(ring, text) for ring in explaining))
                elif size <= len(text) <= 6:
                    ring = paper_of(("doubtful", pieces, text))
                    self.assertEqual([pieces_of(ring, size), begins(ring, text)], [set(pieces), []])

    def test_long_ones(self):
        self.assertIs(is_true(("sure", RING, [at % 60 for at in range(400)])), True)
        self.assertIs(is_true(("loose", EYES, [0, 1] * 200)), True)
        self.assertIs(is_true(("certain", ["ab", "ba"], "ab" * 200)), True)
        self.assertIs(is_true(("doubtful", ["ab", "ba"], "ab" * 199 + "bb")), True)
        self.assertEqual([is_true(("cheap", PieceWeb(LONG).web(), [1] * 75, many)) for many in (431, 432)],
                         [False, True])


class Papers(unittest.TestCase):
    def test_papers(self):
        for claim in CLAIMS + GOOD:
            for told in (claim, other_one(claim)):
                paper = paper_of(told)
                if paper is None:
                    continue
                with self.subTest(claim=told):
                    self.assertTrue(is_paper_right(told, paper))
                    self.assertIs(is_paper_of(told, paper), True)
                    self.assertIs(is_paper_of(told, as_tuples(paper) if told[0] != "sure" else paper), True)
                    self.assertIs(is_paper_of(other_one(told), paper), False)

    def test_taken_if_right(self):
        for claim in CLAIMS[::7] + GOOD + [other_one(claim) for claim in GOOD]:
            for told in (claim, other_one(claim)):
                word, web = told[:2]
                if word in ("cheap", "close", "loose"):
                    papers = [list(tour) for many in (1, 2, 3, 4) for tour in product(range(min(3, web.many)),
                        repeat=many)]
                elif word in ("dear", "parted"):
                    papers = [list(prices) for prices in product(range(-2, 4),
                        repeat=web.places)] if web.places < 4 else []
                    papers += [[], [0], [0, 1], [1, 0], [0, 0]] if word == "parted" else []
                elif word == "doubtful":
                    papers = ["".join(letters) for many in (1, 2, 3, 4) for letters in product("abc", repeat=many)]
                else:
                    places = web.places if word == "sure" else len(PieceWeb(web).words())
                    papers = [[(1, 1, lot)] for lot in ([], [0], [1],
                                                        [0, 1]) if all(place < places for place in lot)] + [[]]
                for paper in papers:
                    fits = word != "dear" or len(paper) == web.places
                    fits = fits and (word != "parted" or all(0 <= place < web.places for place in paper))
                    wanted = fits and is_paper_right(told, paper)
                    self.assertIs(is_paper_of(told, paper), wanted)

    def test_rank_papers(self):
        for web in CLOSE[::9] + FEW[:3]:
            for walk in walks(web, 3)[::3]:
                paper = rank_paper(web, walk)
                if paper is not None:
                    self.assertIs(is_paper_of(("sure", web, walk), paper), True)
                    self.assertIs(is_paper_of(("loose", web, walk), paper), False)
        # Of a text it is no paper.
        shop = PieceWeb(SHOP)
        paper = rank_paper(shop.web(), shop.walk_of("bac"))
        self.assertEqual([is_paper_of(("sure", shop.web(), shop.walk_of("bac")), paper),
                          is_paper_of(("certain", SHOP, "bac"), paper)], [True, False])

    def test_parted(self):
        for web, papers, others in (
                (Web(1, []), [[], ()], [[0], None]), (Web(2, []), [[0], [1], (1,)], [[], [0, 1], [2], [True]]),
                (Web(2, [(0, 1)]), [[1]], [[], [0], [0, 1]]), (Web(1, [(0, 0)]), [], [[], [0]]),
                (Web(3, [(0, 1), (1, 2)]), [[2], [1, 2]], [[2, 1], [1], [0, 2], [2, 2], [0, 1, 2]]),
                (PAIR, [], [[], [0], [1], [0, 1]])):
            claim = ("parted", web)
            self.assertEqual([is_paper_of(claim, paper) for paper in papers + others],
                             [True] * len(papers) + [False] * len(others))
            if papers:
                self.assertIn(paper_of(claim), papers)
            else:
                self.assertIsNone(paper_of(claim))

    def test_close_at_each_place(self):
        # The round covers, but one place has no tie.
        self.assertEqual([is_paper_of(("close", Web(2, [(0, 0)])), [0]), is_paper_of(("close", Web(1, [(0, 0)])), [0])],
                         [False, True])
        self.assertIs(is_paper_of(("close", Web(3, [(0, 1), (1, 0)])), [0, 1]), False)

    def test_any_value(self):
        for claim in GOOD + [other_one(claim) for claim in GOOD]:
            paper = paper_of(claim)
            values = ODD + NUMBERS + [value for value in STRINGS + LISTS]
            values += [] if paper is None else changed(paper, [True, False, None, "0", {}, [[]], HUGE, support.OTHER])
            for value in values:
                shown = repr(value)
                with self.subTest(claim=claim, value=value):
                    told = is_paper_of(claim, value)
                    self.assertIs(type(told), bool)
                    self.assertIs(is_paper_of(claim=claim, value=value), told)
                    if told:
                        self.assertTrue(is_paper_right(claim, value))
                    self.assertEqual(repr(value), shown)

    def test_more_than_sixty_ties(self):
        walk, text = [at % 60 for at in range(61)], (SIXTY * 2)[:64]
        certain = ("certain", PIECES_60_WORDS, text)
        for claim in (("sure", RING, walk), certain, ("sure", EYES, [0, 1] + [0] * 59)):
            if is_true(claim):
                check_fails(self, TooMany, {"what": "ties", "limit": 60}, paper_of, claim)
                check_fails(self, TooMany, {"what": "ties", "limit": 60}, paper_of, claim=claim)
            else:
                self.assertIsNone(paper_of(claim))
        self.assertEqual([is_true(("sure", RING, walk)), is_true(certain)], [True, True])
        self.assertEqual(len(paper_of(("sure", RING, walk[:60]))), 59 * 60 // 2)
        self.assertIs(is_paper_of(("sure", RING, walk), rank_paper(RING, walk)), True)
        # What isn't true has no paper, however long it is.
        for claim in (("sure", EYES, [0] * 400), ("loose", RING, walk), ("doubtful", *certain[1:]),
                      ("certain", SHOP, "ab" * 200), ("certain", SHOP, "bb" * 200)):
            self.assertIsNone(paper_of(claim))
        self.assertIs(is_paper_of(("doubtful", SHOP, "ab" * 200), paper_of(("doubtful", SHOP, "ab" * 200))), True)

    def test_rings_of_more_than_400_letters(self):
        self.assertEqual([len(LONG), len(PieceWeb(LONG).words())], [75, 58])
        for text in ("zzz", "abcyzzuuvuwuxvvwvxwwxxuaabc", "yzy"):
            self.assertIs(is_true(("doubtful", LONG, text)), True)
            check_fails(self, TooMany, {"what": "letters", "limit": 400}, paper_of, ("doubtful", LONG, text))
            self.assertIsNone(paper_of(("certain", LONG, text)))
        self.assertIs(is_paper_of(("certain", LONG, HOME), paper_of(("certain", LONG, HOME))), True)
        self.assertEqual([piece for piece, _ in ring_pieces("abacab", 2)], ["ab", "ac", "ba", "ca"])

    def test_short_rings(self):
        # Where the shortest ring has the text, the shorter one of two others is told.
        steps, shorter = Steps(3), {"by detours": 0, "by reading along": 0}
        for _ in range(60):
            letters = "abcdefgh"[:2 + steps.below(7)]
            pieces = [piece for piece, _ in ring_pieces("".join(letters[steps.below(len(letters))] for _ in range(40)),
                                                        2)]
            shop, ring = PieceWeb(pieces), shortest_ring(pieces)
            text = (ring * 2)[steps.below(len(ring)):][:3 + steps.below(4)]
            if len(text) < 3 or is_true(("certain", pieces, text)):
                continue
            walk, tour = shop.walk_of(text), shop.round_of(ring)
            one = len(detoured(shop.web(), walk, road_around(shop.web(), walk), tour))
            other = len(lacking_round(shop.web(), walk))
            self.assertEqual(len(paper_of(("doubtful", pieces, text))), min(one, other))
            shorter["by detours"] += one < other
            shorter["by reading along"] += other < one
        self.assertGreater(min(shorter.values()), 0)

    def test_new_papers(self):
        for claim in GOOD:
            paper = paper_of(claim)
            if isinstance(paper, list) and paper:
                shown = repr(paper)
                paper.append(7)
                self.assertEqual(repr(paper_of(claim)), shown)


class Parameters(unittest.TestCase):
    def test_parameters(self):
        for claim in GOOD:
            for call in (is_true, paper_of, contrary):
                check_parameters(self, call, [("claim", claim, WRONG_CLAIMS[::4], InvalidClaim)])
        for call in (is_true, paper_of, contrary):
            check_parameters(self, call, [("claim", GOOD[0], WRONG_CLAIMS, InvalidClaim)])
        check_parameters(self, is_paper_of, [("claim", GOOD[0], WRONG_CLAIMS, InvalidClaim), ("value", None, [], None)])

    def test_all_words(self):
        self.assertEqual(sorted(CONTRARIES), sorted(word for row in words() for word in row))
