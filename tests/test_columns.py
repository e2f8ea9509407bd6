"""Points [8b3] to [8b5]: the last letters of sorted turnings."""

import unittest

from suretexts.columns import column_of, how_often_by, is_column, ring_of_column, stretch_by
from suretexts.errors import InvalidRing, InvalidWord, NoRing
from suretexts.rings import are_alike, begins, normal, turned
from tests.support import WRONG_RINGS, check_fails, check_parameters, words

RINGS = words("ab", 6) + words("abc", 4) + ["banana", "abcabcabc", "cabac", "aabaab", "zaza"]


def turnings(ring):
    return sorted(ring[at:] + ring[:at] for at in range(len(ring)))


def plain_column(ring):
    return "".join(turning[-1] for turning in turnings(ring))


COLUMNS = {plain_column(ring): min(turnings(ring)) for ring in RINGS}


class Columns(unittest.TestCase):
    def test_sorted_turnings(self):
        for ring in RINGS:
            self.assertEqual(column_of(ring), plain_column(ring))
        self.assertEqual([column_of("a"), column_of("ba"), column_of("banana"), column_of("ab" * 200)],
                         ["a", "ba", "nnbaaa", "b" * 200 + "a" * 200])

    def test_alike_rings(self):
        for ring in words("ab", 5):
            for other in words("ab", 5)[::3]:
                self.assertEqual(column_of(ring) == column_of(other), are_alike(ring, other))
            for by in range(len(ring)):
                self.assertEqual(column_of(turned(ring, by)), column_of(ring))

    def test_all_texts_of_few_letters(self):
        for text in words("ab", 6) + words("abc", 4):
            if text in COLUMNS:
                self.assertIs(is_column(text), True)
                self.assertEqual(ring_of_column(text), COLUMNS[text])
            else:
                self.assertIs(is_column(text), False)
                check_fails(self, NoRing, {}, ring_of_column, text)
                check_fails(self, NoRing, {}, ring_of_column, column=text)

    def test_read_several_times(self):
        for ring in ("ab", "a", "aab", "abcb"):
            for times in (1, 2, 3, 7):
                column = plain_column(ring * times)
                self.assertEqual([is_column(column), ring_of_column(column)], [True, normal(ring * times)])
        self.assertEqual([ring_of_column("aaaa"), ring_of_column("bbaa"), ring_of_column("a" * 400)],
                         ["aaaa", "abab", "a" * 400])

    def test_of_no_ring(self):
        # Rounds of formers that tell unlike rings; alike ones of unlike length are none.
        for text in ("ab", "aab", "abab", "abc", "a" * 399 + "b", "aba", "bab"):
            self.assertEqual([text, is_column(text)], [text, text in COLUMNS])
            if text not in COLUMNS:
                check_fails(self, NoRing, {}, ring_of_column, text)

    def test_there_and_back(self):
        for ring in ("abcab" * 80, "a" * 399 + "b", "thequickbrownfoxjumpsoverthelazydog" * 11, "ab" * 199 + "a"):
            self.assertEqual(ring_of_column(column_of(ring)), normal(ring))


class Stretches(unittest.TestCase):
    def test_sorted_turnings_and_places(self):
        for ring in RINGS[::2]:
            column, rows = plain_column(ring), turnings(ring)
            for word in words("abc", 3) + [ring, ring + ring[:1], ring * 3, "ab" * 6, "n", "banana", "a" * 13]:
                first = [at for at, row in enumerate(rows) if (row * (len(word) // len(row) + 1)).startswith(word)]
                self.assertEqual(stretch_by(column, word), (first[0], first[-1] + 1) if first else None)
                self.assertEqual(how_often_by(column, word), len(begins(ring, word)))
                self.assertEqual(first, list(range(first[0], first[-1] + 1)) if first else [])

    def test_longer_than_the_ring(self):
        self.assertEqual([how_often_by("cbaab", "cababca"), stretch_by("cbaab", "ababc" * 80)], [1, (0, 1)])
        self.assertEqual([how_often_by("a", "a" * 400), stretch_by("a", "a" * 400), how_often_by("a", "aab")],
                         [1, (0, 1), 0])
        self.assertEqual([how_often_by("bbaa", "abababa"), stretch_by("bbaa", "babab")], [2, (2, 4)])

    def test_letters_that_are_not_there(self):
        self.assertEqual([stretch_by("cbaab", word) for word in ("z", "bz", "zb", "ac", "cc")], [None] * 5)
        self.assertEqual([how_often_by("cbaab", word) for word in ("z", "bz", "zb", "ac", "cc")], [0] * 5)

    def test_of_no_ring(self):
        for call in (stretch_by, how_often_by):
            for column in ("ab", "aab", "abc"):
                for word in ("a", "z", "ab" * 20):
                    check_fails(self, NoRing, {}, call, column, word)
                    check_fails(self, NoRing, {}, call, column=column, word=word)
                check_fails(self, InvalidWord, {"value": ""}, call, column, "")


class Parameters(unittest.TestCase):
    def test_parameters(self):
        check_parameters(self, column_of, [("ring", "ab", WRONG_RINGS, InvalidRing)])
        for call in (is_column, ring_of_column):
            check_parameters(self, call, [("column", "ba", WRONG_RINGS, InvalidRing)])
        for call in (stretch_by, how_often_by):
            check_parameters(self, call, [
                ("column", "ba", WRONG_RINGS, InvalidRing), ("word", "ab", WRONG_RINGS, InvalidWord)])
