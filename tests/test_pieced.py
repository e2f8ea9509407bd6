"""Points [5] and [1a6]: the pieces of rings and of texts."""

import unittest

from suretexts.errors import InvalidBy, InvalidPieces, InvalidRing, InvalidSize, InvalidText
from suretexts.pieced import cut_at, has_just, line_pieces, ring_pieces
from suretexts.rings import turned
from tests.support import (
    HUGE, LISTS, NUMBERS, ODD, STRINGS, WRONG_COUNTS, WRONG_RINGS, WRONG_SIZES, WRONG_TEXTS,
    check_parameters, words)

PIECES_81 = words("abcdefghi", 2, 2)
# Sixty unlike pieces with sixty unlike words, and one more with a word of its own.
SIXTY = "".join(one + two for one in "abcdef" for two in "ghijklmnop")[:60]
PIECES_60_WORDS = [piece for piece, _ in ring_pieces(SIXTY, 4)]
PIECES_61_WORDS = PIECES_60_WORDS + ["zzzz"]

WRONG_PIECES = ODD + NUMBERS + STRINGS + LISTS + [
    ["a"], ["ab", "a"], ["ab", "abc"], ["ab", "ab"], ("ab", "ba", "ab"), ["abcdefghi"], ["ab", ""], [""], ["aB"],
    ["ab", True], ["ab", None], [["ab"]], [("a", "b")], "ab", {"ab": 1}, PIECES_81, tuple(PIECES_81), PIECES_61_WORDS]


def often(pieces):
    return sorted((piece, pieces.count(piece)) for piece in set(pieces))


class RingPieces(unittest.TestCase):
    def test_read_from_each_place(self):
        for ring in words("ab", 5) + words("abc", 3):
            for size in range(2, 9):
                endless = ring * 8
                wanted = often([endless[at:at + size] for at in range(len(ring))])
                self.assertEqual(ring_pieces(ring, size), wanted)
                self.assertEqual(sum(times for _, times in wanted), len(ring))

    def test_alike_rings(self):
        for ring in words("ab", 6):
            for by in range(len(ring)):
                self.assertEqual(ring_pieces(turned(ring, by), 3), ring_pieces(ring, 3))

    def test_edges(self):
        self.assertEqual(ring_pieces("a", 8), [("aaaaaaaa", 1)])
        self.assertEqual(ring_pieces("a" * 400, 8), [("aaaaaaaa", 400)])
        self.assertEqual(ring_pieces("ab", 2), [("ab", 1), ("ba", 1)])

    def test_parameters(self):
        check_parameters(self, ring_pieces, [
            ("ring", "ab", WRONG_RINGS, InvalidRing), ("size", 2, WRONG_SIZES, InvalidSize)])


class LinePieces(unittest.TestCase):
    def test_read_from_places_with_enough_letters(self):
        for text in words("ab", 9, 0):
            for size in range(2, 9):
                wanted = often([text[at:at + size] for at in range(len(text)) if at + size <= len(text)])
                self.assertEqual(line_pieces(text, size), wanted)

    def test_edges(self):
        self.assertEqual([line_pieces("", 2), line_pieces("a", 2), line_pieces("abcdefg", 8)], [[], [], []])
        self.assertEqual(line_pieces("abcdefgh", 8), [("abcdefgh", 1)])
        self.assertEqual(line_pieces("a" * 400, 2), [("aa", 399)])

    def test_parameters(self):
        check_parameters(self, line_pieces, [
            ("text", "", WRONG_TEXTS, InvalidText), ("size", 2, WRONG_SIZES, InvalidSize)])


class HasJust(unittest.TestCase):
    def test_just_these(self):
        lots = [[piece for piece, _ in ring_pieces(ring, 2)] for ring in words("ab", 4)]
        for ring in words("ab", 6):
            for pieces in lots:
                wanted = [piece for piece, _ in ring_pieces(ring, 2)] == pieces
                self.assertIs(has_just(ring, pieces), wanted)
                self.assertIs(has_just(ring, tuple(pieces[::-1])), wanted)

    def test_missing_and_further_ones(self):
        self.assertIs(has_just("abac", ["ca", "ab", "ba", "ac"]), True)
        self.assertIs(has_just("abac", ["ab", "ba", "ac"]), False)
        self.assertIs(has_just("abac", ["ab", "ba", "ac", "ca", "aa"]), False)

    def test_rings_shorter_than_a_piece_or_read_again(self):
        self.assertIs(has_just("a", ["aaaaaaaa"]), True)
        self.assertIs(has_just("ab", ["abab", "baba"]), True)
        self.assertIs(has_just("ababab", ["abab", "baba"]), True)
        self.assertIs(has_just("ab", ["abc", "bca", "cab"]), False)

    def test_eighty_pieces(self):
        self.assertEqual(len(PIECES_81), 81)
        self.assertIs(has_just("a", PIECES_81[:80]), False)

    def test_sixty_words(self):
        self.assertEqual(len(PIECES_60_WORDS), 60)
        self.assertEqual(len({word for piece in PIECES_60_WORDS for word in (piece[:-1], piece[1:])}), 60)
        self.assertEqual(len({word for piece in PIECES_61_WORDS for word in (piece[:-1], piece[1:])}), 61)
        self.assertIs(has_just(SIXTY, PIECES_60_WORDS), True)

    def test_parameters(self):
        check_parameters(self, has_just, [
            ("ring", "ab", WRONG_RINGS, InvalidRing), ("pieces", ["ab", "ba"], WRONG_PIECES, InvalidPieces)])


class CutAt(unittest.TestCase):
    def test_its_pieces_are_the_rings(self):
        for ring in words("ab", 4) + words("abc", 3):
            for size in range(2, 9):
                for place in range(len(ring)):
                    cut = cut_at(ring, size, place)
                    self.assertEqual(cut, (ring * 12)[place:place + len(ring) + size - 1])
                    self.assertEqual(line_pieces(cut, size), ring_pieces(ring, size))

    def test_longest(self):
        self.assertEqual(cut_at("a" * 400, 8, 399), "a" * 407)

    def test_parameters(self):
        check_parameters(self, cut_at, [
            ("ring", "aab", WRONG_RINGS, InvalidRing), ("size", 2, WRONG_SIZES, InvalidSize),
            ("place", 2, WRONG_COUNTS + [3, 4, HUGE], InvalidBy)])
