"""Points [5] and [1a1] to [1a5], [1a7]: texts and rings."""

import unittest

from suretexts.errors import InvalidBy, InvalidRing, InvalidText, InvalidWord
from suretexts.rings import (
    are_alike, begins, borders, is_ring, is_text, normal, overlap, period_of, plain_begins, plain_normal, root_of,
    stands_in, turned)
from tests.support import (
    HUGE, WRONG_COUNTS, WRONG_RINGS, WRONG_TEXTS, check_parameters, words)

RINGS = words("ab", 8) + words("abc", 5)
LONG = "ab" * 199 + "aa"


def turnings(ring):
    return [ring[k:] + ring[:k] for k in range(len(ring))]


def is_border(text, word):
    return len(text) < len(word) and word.startswith(text) and word.endswith(text)


class Texts(unittest.TestCase):
    def test_texts(self):
        for value in ("", "a", "z", "abcxyz", "a" * 400):
            self.assertIs(is_text(value), True)
        for value in WRONG_TEXTS:
            self.assertIs(is_text(value), False)

    def test_rings(self):
        for value in ("a", "z", "abcxyz", "a" * 400):
            self.assertIs(is_ring(value), True)
        for value in WRONG_RINGS:
            self.assertIs(is_ring(value), False)

    def test_by_name(self):
        self.assertEqual([is_text(value=""), is_ring(value="")], [True, False])


class Turned(unittest.TestCase):
    def test_turned(self):
        self.assertEqual([turned("abcab", by) for by in range(7)],
                         ["abcab", "bcaba", "cabab", "ababc", "babca", "abcab", "bcaba"])

    def test_each_count(self):
        for ring in RINGS:
            for by in range(2 * len(ring) + 1):
                self.assertEqual(turned(ring, by), "".join(ring[(by + k) % len(ring)] for k in range(len(ring))))

    def test_far(self):
        self.assertEqual(turned("ab", HUGE), "ba")
        self.assertEqual(turned("a", HUGE), "a")
        self.assertEqual(turned(LONG, 400), LONG)
        self.assertEqual(turned(LONG, 399), "a" + LONG[:-1])

    def test_parameters(self):
        check_parameters(self, turned, [("ring", "ab", WRONG_RINGS, InvalidRing), ("by", 1, WRONG_COUNTS, InvalidBy)])


class Normal(unittest.TestCase):
    def test_both_ways_alike(self):
        for ring in RINGS:
            self.assertEqual(plain_normal(ring), min(turnings(ring)))
            self.assertEqual(normal(ring), min(turnings(ring)))

    def test_long_rings(self):
        for ring in (LONG, "a" * 400, "b" * 399 + "a", "ab" * 200, "abcabd" * 66, "zyx" * 133):
            self.assertEqual(normal(ring), min(turnings(ring)))
            self.assertEqual(plain_normal(ring), min(turnings(ring)))

    def test_parameters(self):
        for call in (plain_normal, normal):
            check_parameters(self, call, [("ring", "ba", WRONG_RINGS, InvalidRing)])


class Alike(unittest.TestCase):
    def test_alike(self):
        rings = words("ab", 5) + words("abc", 3)
        for ring in rings:
            for other in rings:
                self.assertIs(are_alike(ring, other), other in turnings(ring))

    def test_again_and_again_is_another_ring(self):
        self.assertIs(are_alike("ab", "abab"), False)

    def test_parameters(self):
        check_parameters(self, are_alike, [
            ("ring", "ab", WRONG_RINGS, InvalidRing), ("other", "ba", WRONG_RINGS, InvalidRing)])


class Borders(unittest.TestCase):
    def test_longest_borders(self):
        for word in RINGS:
            wanted = [max(k for k in range(at) if is_border(word[:k], word[:at])) for at in range(1, len(word) + 1)]
            self.assertEqual(borders(word), wanted)

    def test_borders_of_borders(self):
        for word in RINGS:
            told, found = borders(word), []
            size = len(word)
            while size > 0:
                size = told[size - 1]
                found.append(size)
            self.assertEqual(found, [k for k in range(len(word) - 1, -1, -1) if is_border(word[:k], word)])

    def test_long_words(self):
        self.assertEqual(borders("a" * 400), list(range(400)))
        self.assertEqual(borders("a" * 399 + "b"), list(range(399)) + [0])

    def test_new_each_time(self):
        borders("aa").append(9)
        self.assertEqual(borders("aa"), [0, 1])

    def test_parameters(self):
        check_parameters(self, borders, [("word", "ab", WRONG_RINGS, InvalidWord)])


class Begins(unittest.TestCase):
    def test_both_ways_alike(self):
        for ring in words("ab", 5):
            for word in words("ab", 7):
                endless = ring * 12
                wanted = [at for at in range(len(ring)) if endless.startswith(word, at)]
                self.assertEqual(plain_begins(ring, word), wanted)
                self.assertEqual(begins(ring, word), wanted)
                self.assertIs(stands_in(ring, word), wanted != [])

    def test_longer_than_the_ring(self):
        for call in (plain_begins, begins):
            self.assertEqual(call("a", "a" * 400), [0])
            self.assertEqual(call("ab", "ba" * 200), [1])
            self.assertEqual(call("ab", "ba" * 199 + "bb"), [])
            self.assertEqual(call("a" * 400, "a" * 400), list(range(400)))
            self.assertEqual(call("a" * 399 + "b", "a" * 399), [0])
            self.assertEqual(call("abab", "babab"), [1, 3])

    def test_begins_one_period_further_on(self):
        for ring in words("ab", 6):
            for word in words("ab", 4):
                found = begins(ring, word)
                self.assertEqual(found, sorted((at + period_of(ring)) % len(ring) for at in found))

    def test_parameters(self):
        rows = [("ring", "ab", WRONG_RINGS, InvalidRing), ("word", "ba", WRONG_RINGS, InvalidWord)]
        for call in (plain_begins, begins, stands_in):
            check_parameters(self, call, rows)


class Periods(unittest.TestCase):
    def test_period_and_root(self):
        for ring in RINGS:
            period = [by for by in range(1, len(ring) + 1) if turned(ring, by) == ring][0]
            self.assertEqual(period_of(ring), period)
            self.assertEqual(root_of(ring), ring[:period])
            self.assertEqual(root_of(ring) * (len(ring) // period), ring)
            self.assertEqual(len(set(turnings(ring))), period)

    def test_long_rings(self):
        self.assertEqual([period_of("a" * 400), period_of("ab" * 200), period_of(LONG)], [1, 2, 400])
        self.assertEqual([root_of("a" * 400), root_of("ab" * 200), root_of(LONG)], ["a", "ab", LONG])

    def test_a_border_alone_is_no_period(self):
        self.assertEqual([period_of("aba"), period_of("ababa"), period_of("aab")], [3, 5, 3])

    def test_parameters(self):
        for call in (period_of, root_of):
            check_parameters(self, call, [("ring", "ab", WRONG_RINGS, InvalidRing)])


class Overlaps(unittest.TestCase):
    def test_overlaps(self):
        texts = words("ab", 5, 0)
        for text in texts:
            for other in texts:
                many = [k for k in range(1, min(len(text), len(other))) if text[-k:] == other[:k]]
                self.assertEqual(overlap(text, other), max(many, default=0))

    def test_edges(self):
        self.assertEqual([overlap("", ""), overlap("", "a"), overlap("a", ""), overlap("a", "a")], [0, 0, 0, 0])
        self.assertEqual([overlap("aa", "aa"), overlap("ab", "ab"), overlap("abab", "abab")], [1, 0, 2])
        self.assertEqual([overlap("a" * 400, "a" * 400), overlap("a" * 400, "aaa")], [399, 2])

    def test_parameters(self):
        check_parameters(self, overlap, [
            ("text", "", WRONG_TEXTS, InvalidText), ("next_text", "", WRONG_TEXTS, InvalidText)])
