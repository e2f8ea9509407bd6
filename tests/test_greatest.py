"""Points [4a1] to [4a7]: greatest sure walks, simple walks, fork walks, contigs."""

import unittest
from unittest import mock

from suretexts.avoiding import is_sure_plain
from suretexts.errors import EndlessWalks, InvalidPieces, InvalidWalk, InvalidWeb, NotClose, TooMany
from suretexts.greatest import contigs, fork_walks, is_fork_walk, is_simple_walk, simple_walks, sure_walks
from suretexts.pieced import ring_pieces
from suretexts.pieces import PieceWeb
from suretexts.rings import normal, stands_in
from suretexts.roads import comes_from, goes_on
from suretexts.webs import Web
from tests.support import check_fails, check_parameters, words
from tests.test_pieced import PIECES_60_WORDS, WRONG_PIECES
from tests.test_webs import WRONG_WALKS, WRONG_WEBS
from tests.webs import CLOSE, FEW, OPEN, SMALL, comes_to, plainly_close, plainly_sure, walks

TWO = Web(3, [(0, 1), (1, 0), (0, 2), (2, 0)])
RINGS = [Web(1, [(0, 0)]), Web(2, [(1, 0), (0, 1)]), Web(3, [(0, 1), (1, 2), (2, 0)]),
         Web(60, [(place, (place + 1) % 60) for place in range(60)])]
BRANCHED = [web for web in CLOSE if web.many > web.places]
# A ring of 60 places with a short cut, and 40 places there and back.
CUT = Web(60, RINGS[3].ties() + [(30, 32)])
LINE = Web(40, [(place, place + 1) for place in range(39)] + [(place, place - 1) for place in range(1, 40)])


def all_such(web, is_such):
    """All walks that are such, if each shorter stretch of one is one, too."""
    told = last = [[tie] for tie in range(web.many)]
    while last:
        last = [walk + [tie] for walk in last for tie in web.ties_from(web.ties()[walk[-1]][1]) if is_such(walk + [tie])]
        told = told + last
    return told


def is_within(walk, other):
    return len(walk) < len(other) and any(
        other[at:at + len(walk)] == walk for at in range(len(other) - len(walk) + 1))


def greatest(web, is_such):
    told = all_such(web, is_such)
    return sorted(walk for walk in told if not any(is_within(walk, other) for other in told))


def inner_places(web, walk):
    return [web.ties()[tie][1] for tie in walk[:-1]]


def ties_at(web, place):
    """How many ties lead to the place, and how many from it."""
    return ([far for _, far in web.ties()].count(place), [near for near, _ in web.ties()].count(place))


def is_plainly_simple(web, walk):
    return all(ties_at(web, place) == (1, 1) for place in inner_places(web, walk))


def has_forcing_tie(web, walk):
    """Whether ahead of some tie one tie leads to each inner place, and behind it one from each."""
    inner = [ties_at(web, place) for place in inner_places(web, walk)]
    return any(all(to == 1 for to, _ in inner[:at]) and all(out == 1 for _, out in inner[at:])
               for at in range(len(walk)))


class Greatest(unittest.TestCase):
    def test_small_webs(self):
        for web in BRANCHED + FEW:
            sure = plainly_sure if web.places < 3 else is_sure_plain
            self.assertEqual(sure_walks(web), greatest(web, lambda walk: sure(web, walk)), web.ties())

    def test_neither_on_nor_from(self):
        for web in BRANCHED[::7] + FEW + [CUT, LINE]:
            for walk in sure_walks(web):
                self.assertEqual([goes_on(web, walk), comes_from(web, walk)], [[], []])

    def test_each_tie_in_one(self):
        for web in BRANCHED + FEW + [CUT, LINE]:
            told = sure_walks(web)
            self.assertEqual({tie for walk in told for tie in walk}, set(range(web.many)))
            self.assertEqual(told, sorted(told))
            self.assertEqual([type(told)] + [type(walk) for walk in told], [list] * (len(told) + 1))

    def test_several_on_and_several_from(self):
        web = Web(3, [(0, 1), (0, 1), (1, 2), (2, 0), (2, 0)])
        self.assertEqual(sure_walks(web), [[0, 2], [1, 2], [2, 3], [2, 4]])
        self.assertEqual(sure_walks(TWO), [[0, 1, 2, 3], [2, 3, 0, 1]])

    def test_walks_that_come_to_a_tie_again(self):
        self.assertEqual(sure_walks(Web(2, [(0, 1), (1, 0), (0, 0)])), [[0, 1, 2], [2, 0, 1]])
        self.assertEqual(sure_walks(LINE)[36:40], [[37, 38, 77], [38, 77, 76], [39, 0, 1], [40, 39, 0]])

    def test_large(self):
        self.assertEqual(sure_walks(Web(1, [(0, 0)] * 80)), [[tie] for tie in range(80)])
        for web in (CUT, LINE):
            for walk in sure_walks(web):
                self.assertTrue(is_sure_plain(web, walk))
        # At some time one goes from the short cut over to what it cuts off, and at some time back.
        around = list(range(32, 60)) + list(range(30))
        self.assertEqual(sure_walks(CUT), [
            around + [30, 31] + around + [60] + around, around + [60] + around + [30, 31] + around])

    def test_new_lists(self):
        for call in (sure_walks, simple_walks, fork_walks):
            call(TWO)[0].append(7)
            call(TWO).append(7)
            self.assertEqual(call(TWO), call(TWO))
            self.assertNotIn(7, sum(call(TWO), []))


class Simple(unittest.TestCase):
    def test_small_webs(self):
        for web in BRANCHED + FEW + [CUT, LINE]:
            self.assertEqual(simple_walks(web), greatest(web, lambda walk: is_plainly_simple(web, walk)), web.ties())

    def test_each_tie_in_just_one(self):
        for web in BRANCHED + FEW:
            self.assertEqual(sorted(sum(simple_walks(web), [])), list(range(web.many)))

    def test_inner_places(self):
        for web in SMALL[::5] + FEW + RINGS[:3]:
            for walk in walks(web, 4)[::2]:
                for told in (is_simple_walk(web, walk), is_simple_walk(web, tuple(walk))):
                    self.assertIs(told, is_plainly_simple(web, walk))

    def test_ends_are_no_inner_places(self):
        self.assertEqual([is_simple_walk(TWO, walk) for walk in ([0], [0, 1], [2, 3], [1, 0], [0, 1, 2])],
                         [True, True, True, False, False])

    def test_a_join_alone_and_a_fork_alone(self):
        web = Web(4, [(0, 1), (0, 1), (1, 2), (2, 3), (2, 3), (3, 0)])
        self.assertEqual([is_simple_walk(web, walk) for walk in ([0, 2], [2, 3], [3, 5], [5, 0])], [False] * 4)
        self.assertEqual(simple_walks(web), [[0], [1], [2], [3], [4], [5]])

    def test_single_rings(self):
        for ring in RINGS[:3]:
            for walk in walks(ring, 7):
                self.assertIs(is_simple_walk(ring, walk), True)
        self.assertIs(is_simple_walk(RINGS[3], (list(range(60)) * 7)[:400]), True)


class Forks(unittest.TestCase):
    def test_small_webs(self):
        for web in BRANCHED + FEW + [LINE]:
            self.assertEqual(fork_walks(web), greatest(web, lambda walk: has_forcing_tie(web, walk)), web.ties())

    def test_long_ones(self):
        around = list(range(32, 60)) + list(range(30))
        self.assertEqual(fork_walks(CUT), [around + [30, 31] + around, around + [60] + around])

    def test_a_tie_that_forces_the_others(self):
        for web in SMALL[::5] + FEW + RINGS[:3]:
            for walk in walks(web, 4)[::2]:
                for told in (is_fork_walk(web, walk), is_fork_walk(web, tuple(walk))):
                    self.assertIs(told, has_forcing_tie(web, walk))

    def test_fork_ahead_of_join_and_behind_it(self):
        web = Web(4, [(0, 1), (1, 2), (1, 2), (2, 3), (3, 3), (3, 0)])
        # 1 is a fork, 2 is a join, 3 is both.
        self.assertEqual([is_fork_walk(web, walk) for walk in ([0, 1], [0, 1, 3], [1, 3, 4], [3, 4], [3, 5, 0], [4])],
                         [True, True, False, False, False, True])
        self.assertEqual([is_fork_walk(web, walk) for walk in ([5, 0, 1], [5, 0, 1, 3], [1, 3], [4, 5])],
                         [True, True, True, False])
        turned = Web(3, [(0, 1), (0, 1), (1, 2), (2, 0), (2, 0)])
        # The join 1 stands ahead of the fork 2.
        self.assertEqual([is_fork_walk(turned, walk) for walk in ([0, 2], [2, 3], [0, 2, 3])], [True, True, False])

    def test_simple_ones_are_fork_ones_and_these_are_sure(self):
        for web in BRANCHED[::2] + FEW + [CUT, LINE]:
            for short, long in ((simple_walks(web), fork_walks(web)), (fork_walks(web), sure_walks(web))):
                for walk in short:
                    self.assertTrue(any(walk == other or is_within(walk, other) for other in long))
            for walk in simple_walks(web):
                self.assertIs(is_fork_walk(web, walk), True)

    def test_sure_walks_may_be_longer_and_others(self):
        self.assertEqual([simple_walks(TWO), fork_walks(TWO)], [[[0, 1], [2, 3]]] * 2)
        self.assertEqual(sure_walks(TWO), [[0, 1, 2, 3], [2, 3, 0, 1]])

    def test_one_tie(self):
        for web in SMALL + FEW + [web for web, _ in OPEN]:
            for tie in range(web.many):
                self.assertEqual([is_simple_walk(web, [tie]), is_fork_walk(web, [tie])], [True, True])


class AnyWeb(unittest.TestCase):
    def test_not_close(self):
        line = Web(4, [(0, 1), (1, 2), (2, 3), (0, 2)])
        self.assertEqual([is_simple_walk(line, [0, 1]), is_simple_walk(line, [1, 2]), is_fork_walk(line, [0, 1, 2]),
                          is_fork_walk(line, [1, 2])], [True, False, True, True])
        for web, walk in OPEN:
            self.assertIs(is_simple_walk(web, walk), is_plainly_simple(web, walk))
            self.assertIs(is_fork_walk(web, walk), has_forcing_tie(web, walk))
        # A place without a tie: the web isn't close, but its walks are.
        self.assertIs(is_fork_walk(Web(2, [(0, 0), (0, 0)]), [0, 0]), False)


class Contigs(unittest.TestCase):
    def plain_contigs(self, pieces):
        """The contigs, each part made as a web of its own pieces."""
        shop = PieceWeb(pieces)
        reached = comes_to(shop.web())
        told = []
        for part in {tuple(far for far in sorted(places) if near in reached[far]) for near, places in enumerate(reached)}:
            within = [piece for piece, (near, far) in zip(shop.pieces(), shop.web().ties())
                      if near in part and far in part]
            if within:
                own = PieceWeb(within)
                told += self.contigs_of_close(own, own.web())
        return sorted(told)

    def contigs_of_close(self, shop, web):
        if web.many == web.places:
            ring, tie = "", 0
            while len(ring) < web.many:
                ring += shop.pieces()[tie][-1]
                tie = web.ties_from(web.ties()[tie][1])[0]
            return [(min(ring[at:] + ring[:at] for at in range(len(ring))), True)]
        return [(shop.text_of(walk), False) for walk in greatest(web, lambda walk: is_sure_plain(web, walk))]

    def test_small_lots(self):
        pairs, triples = words("abc", 2, 2), words("ab", 3, 3)
        for pieces in (pairs, triples):
            for bits in range(1, 2 ** len(pieces), 3):
                chosen = [piece for at, piece in enumerate(pieces) if bits >> at & 1]
                self.assertEqual(contigs(chosen), self.plain_contigs(chosen), chosen)

    def test_stand_in_each_ring(self):
        for pieces in (["aa", "ab", "ba"], ["ab", "ba", "ac", "ca"], ["aab", "aba", "baa", "aaa"]):
            explaining = [ring for ring in words("abc", 7) if [one for one, _ in ring_pieces(ring, len(pieces[0]))]
                          == sorted(pieces)]
            self.assertGreater(len(explaining), 3)
            for text, _ in contigs(pieces):
                self.assertTrue(all(stands_in(ring, text) for ring in explaining))

    def test_example(self):
        self.assertEqual(contigs(["aa", "ab", "ba"]), [("aaba", False), ("abaa", False)])
        self.assertFalse(stands_in("aabab", "aabaa"))
        self.assertEqual(contigs(("ba", "ab", "aa")), [("aaba", False), ("abaa", False)])

    def test_rings(self):
        self.assertEqual(contigs(["baa", "aab", "aba"]), [("aab", True)])
        self.assertEqual(contigs(["cab", "bca", "abc"]), [("abc", True)])
        self.assertEqual(contigs(["aa"]), [("a", True)])
        self.assertEqual(contigs(["ba", "ab"]), [("ab", True)])
        self.assertEqual(contigs(["zb", "bz", "aa"]), [("a", True), ("bz", True)])
        ring = "".join(chr(97 + at // 26) + chr(97 + at % 26) for at in range(30))[:60]
        told = contigs([piece for piece, _ in ring_pieces(ring, 8)])
        self.assertEqual(told, [(normal(ring), True)])

    def test_pieces_in_no_part(self):
        self.assertEqual(contigs(["ab"]), [])
        self.assertEqual(contigs(["abc", "bcd", "cde"]), [])
        self.assertEqual(contigs(["xa", "ab", "ba", "bz"]), [("ab", True)])
        # Each place is a part of its own, one with ties to itself, the others without.
        self.assertEqual(contigs(["aa", "ab", "bb", "bc"]), [("a", True), ("b", True)])

    def test_several_parts(self):
        told = contigs(["aa", "ab", "ba", "bc", "cd", "dc", "xx", "xy", "yx"])
        self.assertEqual(told, [("aaba", False), ("abaa", False), ("cd", True), ("xxyx", False), ("xyxx", False)])
        self.assertEqual([type(told), type(told[0])], [list, tuple])

    def test_a_part_of_one_place(self):
        self.assertEqual(contigs(["aaa", "aab"]), [("a", True)])

    def test_most(self):
        told = contigs(PIECES_60_WORDS)
        self.assertEqual(told, self.plain_contigs(PIECES_60_WORDS))

    def test_parameters(self):
        check_parameters(self, contigs, [("pieces", ["ab", "ba"], WRONG_PIECES, InvalidPieces)])


class Wrong(unittest.TestCase):
    def test_parameters(self):
        for call in (sure_walks, simple_walks, fork_walks):
            check_parameters(self, call, [("web", TWO, WRONG_WEBS, InvalidWeb)])
        for call in (is_simple_walk, is_fork_walk):
            check_parameters(self, call, [
                ("web", TWO, WRONG_WEBS, InvalidWeb), ("walk", [1, 0], WRONG_WALKS, InvalidWalk)])

    def test_not_close(self):
        for call in (sure_walks, simple_walks, fork_walks):
            for web in [web for web in SMALL if not plainly_close(web)][::9] + [web for web, _ in OPEN]:
                check_fails(self, NotClose, {}, call, web)
                check_fails(self, NotClose, {}, call, web=web)

    def test_endless(self):
        for call in (sure_walks, simple_walks, fork_walks):
            for web in RINGS:
                check_fails(self, EndlessWalks, {}, call, web)
                check_fails(self, EndlessWalks, {}, call, web=web)

    def test_too_many_ties(self):
        # The longest one of TWO has 4 ties.
        with mock.patch("suretexts.greatest.LONGEST_WALK", 4):
            self.assertEqual(sure_walks(TWO), [[0, 1, 2, 3], [2, 3, 0, 1]])
        with mock.patch("suretexts.greatest.LONGEST_WALK", 3):
            check_fails(self, TooMany, {"what": "ties", "limit": 3}, sure_walks, TWO)
            check_fails(self, TooMany, {"what": "ties", "limit": 3}, contigs, ["ab", "ba", "ac", "ca"])
            with mock.patch("suretexts.greatest.MOST_WALKS", 1):
                check_fails(self, TooMany, {"what": "ties", "limit": 3}, sure_walks, TWO)

    def test_too_many_walks(self):
        with mock.patch("suretexts.greatest.MOST_WALKS", 2):
            self.assertEqual(len(sure_walks(TWO)), 2)
        with mock.patch("suretexts.greatest.MOST_WALKS", 1):
            check_fails(self, TooMany, {"what": "walks", "limit": 1}, sure_walks, TWO)
            check_fails(self, TooMany, {"what": "walks", "limit": 1}, contigs, ["ab", "ba", "ac", "ca"])
            self.assertEqual([len(simple_walks(TWO)), len(fork_walks(TWO))], [2, 2])

    def test_too_many_part_by_part(self):
        pieces = ["aa", "ab", "ba", "xx", "xy", "yx"]
        with mock.patch("suretexts.greatest.MOST_WALKS", 2):
            self.assertEqual(len(contigs(pieces)), 4)
        with mock.patch("suretexts.greatest.MOST_WALKS", 1):
            check_fails(self, TooMany, {"what": "walks", "limit": 1}, contigs, pieces + ["mn", "nm"])

    def test_limits(self):
        from suretexts import greatest as told
        self.assertEqual([told.LONGEST_WALK, told.MOST_WALKS], [400, 300])
