"""Point [4]: the guarantees, over the whole program, against rings that are made one by one."""

import unittest
from itertools import combinations

from suretexts.certain import sure_counted, times_counted
from suretexts.claims import contrary, is_paper_of, is_true, paper_of
from suretexts.columns import column_of, how_often_by
from suretexts.counted import all_rounds
from suretexts.desk import Desk
from suretexts.flows import is_price_paper, price_paper
from suretexts.greatest import contigs
from suretexts.judges import is_all_paper
from suretexts.keeper import Keeper
from suretexts.lots import Lot
from suretexts.numbers import how_many
from suretexts.papers import all_paper
from suretexts.parts import is_close, is_single_ring
from suretexts.pieced import has_just, ring_pieces
from suretexts.pieces import PieceWeb
from suretexts.rings import begins, normal
from suretexts.shortest import least_round, price_of, shortest_length, shortest_ring
from tests.book import plain_lot
from tests.support import words
from tests.test_keeper import Steps

# All rings of few letters, each once, by their pieces.
RINGS = [ring for ring in words("ab", 10) if ring == normal(ring)]
BY_PIECES = {}
for each in RINGS:
    BY_PIECES.setdefault(tuple(piece for piece, _ in ring_pieces(each, 3)), []).append(each)
TRIPLES = words("ab", 3, 3)
CLOSE = [list(pieces) for many in range(1, 7) for pieces in combinations(TRIPLES, many)
         if is_close(PieceWeb(pieces).web())]


class Sure(unittest.TestCase):
    def test_texts(self):
        for pieces in CLOSE:
            rings = BY_PIECES.get(tuple(pieces), [])
            self.assertTrue(all(has_just(ring, pieces) for ring in rings))
            for text in words("ab", 5, 3):
                claim = ("certain", pieces, text)
                if is_true(claim):
                    self.assertTrue(all(begins(ring, text) for ring in rings))
                else:
                    ring = paper_of(contrary(claim))
                    self.assertEqual([has_just(ring, pieces), begins(ring, text)], [True, []])

    def test_contigs(self):
        for pieces in CLOSE:
            told = contigs(pieces)
            for ring in BY_PIECES.get(tuple(pieces), []):
                self.assertTrue(all(begins(ring, text) for text, _ in told))
            if not is_single_ring(PieceWeb(pieces).web()):
                # One letter more, at either end, is not certain, or in another contig.
                texts = [text for text, _ in told]
                for text in texts:
                    for longer in [text + letter for letter in "ab"] + [letter + text for letter in "ab"]:
                        if not any(longer in other for other in texts):
                            self.assertIs(is_true(("doubtful", pieces, longer)), True)

    def test_some_ring_explains_exactly_if_close(self):
        for many in range(1, 9):
            for pieces in combinations(TRIPLES, many):
                if pieces in BY_PIECES:
                    self.assertTrue(is_close(PieceWeb(pieces).web()))
        self.assertTrue(all(tuple(pieces) in BY_PIECES for pieces in CLOSE if len(pieces) < 6))


class Papers(unittest.TestCase):
    def test_each_yes_and_each_no(self):
        for pieces in CLOSE:
            shop = PieceWeb(pieces)
            web, prices = shop.web(), [1] * len(pieces)
            claims = [("certain", pieces, text) for text in words("ab", 4, 3)] + [("close", web)]
            claims += [("sure", web, shop.walk_of(text)) for text in words("ab", 4,
                3) if shop.walk_of(text) is not None]
            claims += [("cheap", web, prices, many) for many in (0, len(pieces), len(pieces) + 1, 99)]
            for claim in claims:
                one, other = paper_of(claim), paper_of(contrary(claim))
                self.assertEqual([one is None, is_paper_of(claim, one)], [not is_true(claim), is_true(claim)])
                self.assertEqual([other is None, is_paper_of(contrary(claim), other)],
                                 [is_true(claim), not is_true(claim)])
                self.assertEqual([is_paper_of(claim, other), is_paper_of(contrary(claim), one)], [False, False])

    def test_all_of_them(self):
        for pieces in CLOSE:
            web = PieceWeb(pieces).web()
            if not is_single_ring(web):
                self.assertIs(is_all_paper(web, all_paper(web)), True)


class Least(unittest.TestCase):
    def test_shortest_rings(self):
        for pieces in CLOSE:
            rings = BY_PIECES.get(tuple(pieces), [])
            ring = shortest_ring(pieces)
            self.assertEqual([has_just(ring, pieces), len(ring)], [True, shortest_length(pieces)])
            if rings:
                self.assertEqual(len(ring), min(len(other) for other in rings))
            else:
                self.assertGreater(len(ring), 10)

    def test_papers(self):
        for pieces in CLOSE:
            web = PieceWeb(pieces).web()
            for prices in ([1] * web.many, [1 + 7 * tie % 20 for tie in range(web.many)]):
                least = price_of(web, prices, least_round(web, prices))
                paper = price_paper(web, prices)
                self.assertEqual([is_price_paper(web, prices, paper, many) for many in (least, least + 1)],
                                 [True, False])


class Counted(unittest.TestCase):
    def test_rings_with_the_same_pieces_equally_often(self):
        alike = {}
        for ring in RINGS:
            alike.setdefault(tuple(ring_pieces(ring, 3)), []).append(ring)
        for often, rings in alike.items():
            shop, counts = PieceWeb([piece for piece, _ in often]), [times for _, times in often]
            told = [shop.ring_of(tour) for tour in all_rounds(shop.web(), counts)]
            self.assertEqual([sorted(told), how_many(shop.web(), counts)], [sorted(rings), len(rings)])
            for text in words("ab", 4, 4):
                walk = shop.walk_of(text)
                if walk is not None:
                    times = [len(begins(ring, text)) for ring in rings]
                    self.assertEqual(times_counted(shop.web(), counts, walk), (min(times), max(times)))
                    self.assertIs(sure_counted(shop.web(), counts, walk), min(times) > 0)
            for ring in rings[:1]:
                self.assertEqual([how_often_by(column_of(ring), piece) for piece, _ in often], counts)


class Anew(unittest.TestCase):
    def test_whatever_comes_and_goes(self):
        for seed in range(4):
            steps, desk, keeper, times = Steps(seed + 5), Desk(), Keeper(3, 2), {}
            desk.do("lot p 3")
            for _ in range(40):
                text = ["abab", "babb", "aab", "", "bbabab", "abbaab"][steps.below(6)]
                if steps.below(3) and times.get(text, 0) < 15:
                    keeper.added(text, 2)
                    desk.do(f"add p 2 {text or '-'}")
                    times[text] = times.get(text, 0) + 2
                elif times.get(text):
                    keeper.taken(text, 1)
                    desk.do(f"take p 1 {text or '-'}")
                    times[text] -= 1
                elif len(desk) > 3:
                    keeper.undone()
                    self.assertEqual(desk.do("undo").split(" ")[0][:3], keeper.redone()[0][:3])
                    desk.do("redo")
                lot = plain_lot(3, times)
                self.assertEqual([desk["p"], keeper.lot()], [lot, lot])
                self.check_like(desk, keeper, lot)

    def check_like(self, desk, keeper, lot):
        solid = lot.solid(2)
        self.assertEqual([keeper.solid(), desk.do("solid p 2")], [solid, " ".join(solid) or "-"])
        if solid:
            told = contigs(solid)
            self.assertEqual(keeper.contigs(), told)
            self.assertEqual(desk.do("contigs p 2"), " ".join("@" * is_round + text for text, is_round in told) or "-")
        self.assertEqual(Lot(3, [(text, 1) for text, _ in lot.readings()]).pieces(), sorted(
            (piece, sum(text[at:at + 3] == piece for text, _ in lot.readings() for at in range(len(text))))
            for piece, _ in lot.pieces()))
