"""Points [2b1] to [2b3]: piece webs, texts of walks, rings of rounds."""

import unittest

from suretexts.errors import (
    InvalidPieces, InvalidPieceWeb, InvalidPlace, InvalidRing, InvalidRound, InvalidText, InvalidTie, InvalidWalk,
    TooMany)
from suretexts.parts import is_close
from suretexts.pieced import has_just, line_pieces, ring_pieces
from suretexts.pieces import PieceWeb, explains
from suretexts.rings import normal, turned
from suretexts.webs import Web, covers, is_round
from tests.support import (
    LISTS, NUMBERS, ODD, STRINGS, WRONG_COUNTS, WRONG_RINGS, WRONG_TEXTS, check_fails, check_parameters, words)
from tests.test_pieced import PIECES_60_WORDS, PIECES_81, SIXTY, WRONG_PIECES
from tests.test_webs import WRONG_PLACES, WRONG_ROUNDS, WRONG_WALKS
from tests.webs import rounds, walks

SHOP = PieceWeb(["ab", "ca", "ba", "ac"])
LOOP = PieceWeb(["aaaaaaaa"])
PAIR = PieceWeb(["ab", "ba"])

WRONG_PIECE_WEBS = ODD + NUMBERS + STRINGS + LISTS + [["ab", "ba"], Web(1, [(0, 0)])]

# The ties of the shop's web are not in the sequence of those of the web for which these lists are made.
SHOP_WALKS = [[0, 2], [1, 3]]
WRONG_SHOP_WALKS = [value for value in WRONG_WALKS if value not in SHOP_WALKS] + [[0, 1], [2, 3], [0, 2, 2]]
WRONG_SHOP_ROUNDS = [value for value in WRONG_ROUNDS if value not in SHOP_WALKS] + [
    [0, 1], [2, 3], [0, 2, 1], [0, 2] * 300 + [0]]

LOTS = [["aa"], ["ab"], ["ab", "ba"], ["aa", "ab", "ba"], ["ab", "ba", "ac", "ca"], ["ab", "cd"], ["zz", "yz", "zy"],
        ["aba", "bab"], ["aab", "aba", "baa", "abb", "bba"], ["abc", "bca", "cab", "bcb", "cbc"], words("ab", 3, 3),
        PIECES_81[:80], PIECES_60_WORDS]


class PieceWebs(unittest.TestCase):
    def test_words_and_ties(self):
        for pieces in LOTS:
            shop = PieceWeb(pieces[::-1])
            told = sorted({word for piece in pieces for word in (piece[:-1], piece[1:])})
            self.assertEqual([shop.size, shop.pieces(), shop.words()], [len(pieces[0]), sorted(pieces), told])
            web = shop.web()
            self.assertEqual([web.places, web.many], [len(told), len(pieces)])
            for tie, (near, far) in enumerate(web.ties()):
                piece = sorted(pieces)[tie]
                self.assertEqual([shop.word_at(near), shop.word_at(far)], [piece[:-1], piece[1:]])
                self.assertEqual(shop.letter_of(tie), piece[-1])

    def test_most(self):
        self.assertEqual(PieceWeb(PIECES_81[:80]).web().many, 80)
        self.assertEqual(PieceWeb(tuple(PIECES_60_WORDS)).web().places, 60)
        self.assertEqual(PieceWeb(["abcdefgh"]).web(), Web(2, [(0, 1)]))

    def test_equal(self):
        self.assertIs(SHOP == PieceWeb(("ac", "ab", "ba", "ca")), True)
        self.assertIs(SHOP != PieceWeb(["ac", "ab", "ba", "ca"]), False)
        # The webs of these are equal, but not the pieces.
        for other in (PAIR, PieceWeb(["ab", "da", "ba", "ad"])):
            self.assertIs(SHOP == other, False)
            self.assertIs(SHOP != other, True)
        for other in ODD + NUMBERS + STRINGS + LISTS + [SHOP.web(), SHOP.pieces()]:
            self.assertIs(SHOP == other, False)
            self.assertIs(other == SHOP, False)

    def test_copied_and_new(self):
        pieces = ["ab", "ba"]
        shop = PieceWeb(pieces)
        pieces.append("aa")
        shop.pieces().append("aa")
        shop.words().append("c")
        shop.web().ties().append((0, 0))
        shop.walk_of("ab").append(9)
        shop.round_of("ab").append(9)
        self.assertEqual(shop, PieceWeb(["ab", "ba"]))
        self.assertEqual([shop.pieces(), shop.words(), shop.web(), shop.walk_of("ab"), shop.round_of("ab")],
                         [["ab", "ba"], ["a", "b"], Web(2, [(0, 1), (1, 0)]), [0], [0, 1]])
        self.assertIsNot(shop.web(), shop.web())

    def test_size_is_only_read(self):
        with self.assertRaises(AttributeError):
            SHOP.size = 3

    def test_parameters(self):
        check_parameters(self, PieceWeb, [("pieces", ["ab", "ba"], WRONG_PIECES, InvalidPieces)])
        check_parameters(self, SHOP.word_at, [("place", 2, WRONG_PLACES, InvalidPlace)])
        check_parameters(self, SHOP.letter_of, [("tie", 3, WRONG_COUNTS + [4, 80], InvalidTie)])
        check_parameters(self, SHOP.text_of, [("walk", [0, 2], WRONG_SHOP_WALKS, InvalidWalk)])
        check_parameters(self, SHOP.ring_of, [("tour", [0, 2], WRONG_SHOP_ROUNDS, InvalidRound)])
        check_parameters(self, SHOP.walk_of, [("text", "", WRONG_TEXTS, InvalidText)])
        check_parameters(self, SHOP.round_of, [("ring", "ab", WRONG_RINGS, InvalidRing)])


class Texts(unittest.TestCase):
    def test_there_and_back(self):
        for pieces in LOTS[:11]:
            shop = PieceWeb(pieces)
            for walk in walks(shop.web(), 4):
                text = shop.text_of(walk)
                self.assertEqual(len(text), shop.size - 1 + len(walk))
                self.assertEqual([text[k:k + shop.size] for k in range(len(walk))],
                                 [shop.pieces()[tie] for tie in walk])
                self.assertEqual(shop.walk_of(text), walk)
                self.assertEqual(shop.text_of(tuple(walk)), text)

    def test_texts_of_no_walk(self):
        for pieces in LOTS[:11]:
            shop = PieceWeb(pieces)
            for text in words("abc", 5, 0):
                there = len(text) >= shop.size and all(piece in pieces for piece, _ in line_pieces(text, shop.size))
                told = shop.walk_of(text)
                if there:
                    self.assertEqual(shop.text_of(told), text)
                else:
                    self.assertIsNone(told)

    def test_shorter_than_a_piece(self):
        self.assertEqual([SHOP.walk_of(text) for text in ("", "a", "z")], [None] * 3)
        self.assertEqual([LOOP.walk_of("a" * many) for many in (7, 8, 9)], [None, [0], [0, 0]])

    def test_longest(self):
        self.assertEqual(PAIR.text_of([0, 1] * 199 + [0]), "ab" * 200)
        check_fails(self, TooMany, {"what": "letters", "limit": 400}, PAIR.text_of, [0, 1] * 200)
        self.assertEqual(LOOP.text_of([0] * 393), "a" * 400)
        check_fails(self, TooMany, {"what": "letters", "limit": 400}, LOOP.text_of, [0] * 394)
        check_fails(self, TooMany, {"what": "letters", "limit": 400}, LOOP.text_of, walk=[0] * 400)
        check_fails(self, InvalidWalk, {"value": [0] * 401}, LOOP.text_of, [0] * 401)
        self.assertEqual(LOOP.walk_of("a" * 400), [0] * 393)


class Rings(unittest.TestCase):
    def test_there_and_back(self):
        for pieces in LOTS[:11]:
            shop = PieceWeb(pieces)
            for ring in words("abc", 5):
                tour = shop.round_of(ring)
                read = [(ring * 9)[k:k + shop.size] for k in range(len(ring))]
                if not all(piece in pieces for piece in read):
                    self.assertIsNone(tour)
                    continue
                self.assertTrue(is_round(shop.web(), tour))
                self.assertEqual([shop.pieces()[tie] for tie in tour], read)
                self.assertEqual(shop.ring_of(tour), normal(ring))

    def test_turned_rounds(self):
        for pieces in LOTS[:11]:
            shop = PieceWeb(pieces)
            for tour in rounds(shop.web(), 4):
                ring = shop.ring_of(tour)
                self.assertEqual([ring, len(ring)], [normal(ring), len(tour)])
                for by in range(len(tour)):
                    self.assertEqual(shop.ring_of(tour[by:] + tour[:by]), ring)
                self.assertIn(shop.round_of(ring), [tour[by:] + tour[:by] for by in range(len(tour))])

    def test_shorter_than_a_piece(self):
        self.assertEqual([LOOP.round_of("a"), LOOP.round_of("aaa"), LOOP.round_of("ab")], [[0], [0, 0, 0], None])
        self.assertEqual([LOOP.ring_of([0]), LOOP.ring_of((0, 0))], ["a", "aa"])
        self.assertEqual(PieceWeb(["abab", "baba"]).round_of("ba"), [1, 0])

    def test_longest(self):
        self.assertEqual(PAIR.ring_of([1, 0] * 200), "ab" * 200)
        for many in (401, 402, 20000, 200000):
            check_fails(self, TooMany, {"what": "letters", "limit": 400}, LOOP.ring_of, [0] * many)
        check_fails(self, TooMany, {"what": "letters", "limit": 400}, PAIR.ring_of, [0, 1] * 201)
        self.assertEqual(PAIR.round_of("ba" * 200), [1, 0] * 200)


class Explains(unittest.TestCase):
    def test_has_a_round_that_covers(self):
        for pieces in LOTS[:11]:
            shop = PieceWeb(pieces)
            for ring in words("abc", 6):
                tour = shop.round_of(ring)
                wanted = tour is not None and covers(shop.web(), tour)
                self.assertIs(explains(shop, ring), wanted)
                self.assertIs(has_just(ring, pieces), wanted)

    def test_a_ring_explains_its_pieces(self):
        for ring in words("ab", 6) + ["abcabd", "a" * 400, "ab" * 200, SIXTY]:
            for size in (2, 3, 5):
                shop = PieceWeb([piece for piece, _ in ring_pieces(ring, size)])
                self.assertIs(explains(shop, ring), True)
                self.assertIs(explains(shop, turned(ring, 1)), True)
                self.assertIs(is_close(shop.web()), True)

    def test_none_explains_parted_pieces(self):
        for pieces in (["ab"], ["ab", "cd"], ["aa", "bb"], ["aa", "ab"]):
            shop = PieceWeb(pieces)
            self.assertFalse(is_close(shop.web()))
            self.assertFalse(any(explains(shop, ring) for ring in words("abcd", 4)))

    def test_parameters(self):
        check_parameters(self, explains, [
            ("pieceweb", SHOP, WRONG_PIECE_WEBS, InvalidPieceWeb), ("ring", "abac", WRONG_RINGS, InvalidRing)])
