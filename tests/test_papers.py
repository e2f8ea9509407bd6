"""Points [4b1] to [4b4]: papers of what is sure, made."""

import unittest
from unittest import mock

import suretexts.papers
from suretexts.errors import EndlessWalks, InvalidWalk, InvalidWeb, NotClose, TooMany
from suretexts.greatest import sure_walks
from suretexts.papers import all_paper, no_paper, rank_paper, yes_paper
from suretexts.roads import is_sure
from suretexts.webs import Web
from tests.papers import is_all_right, is_rank_right, is_yes_right, least_lot, pairs_of
from tests.support import check_fails, check_parameters
from tests.test_avoiding import some
from tests.test_greatest import BRANCHED, CUT, LINE, RINGS
from tests.test_webs import WRONG_WALKS, WRONG_WEBS
from tests.webs import CLOSE, FEW, OPEN, is_lacking, plainly_sure

TWO = Web(3, [(0, 1), (1, 0), (0, 2), (2, 0)])
EYES = Web(1, [(0, 0), (0, 0)])
RING_60 = RINGS[3]
CASES = some(CLOSE, 3, 1) + some(CLOSE[::5], 4, 4) + some(FEW, 4, 3) + some(RINGS[:3] + [EYES], 5, 1)


def around(many, first=0):
    """A walk of so many ties of RING_60."""
    return [(first + at) % 60 for at in range(many)]


class YesPapers(unittest.TestCase):
    def test_least_lots(self):
        for web, walk in CASES:
            for told in (yes_paper(web, walk), yes_paper(web, tuple(walk))):
                if plainly_sure(web, walk):
                    self.assertEqual(told, [(i, j, least_lot(web, walk, i, j)) for i, j in pairs_of(walk)])
                    self.assertTrue(is_yes_right(web, walk, told))
                else:
                    self.assertIsNone(told)

    def test_example(self):
        self.assertEqual([yes_paper(EYES, [0, 1]), yes_paper(EYES, [0, 0]), yes_paper(EYES, [0])],
                         [[(1, 1, [])], None, []])
        told = yes_paper(TWO, [0, 1, 2])
        self.assertEqual(told, [(1, 1, []), (1, 2, []), (2, 2, [1])])
        self.assertEqual([type(told), type(told[0]), type(told[0][2])], [list, tuple, list])

    def test_one_tie(self):
        for web in CLOSE[::5] + FEW:
            for tie in range(web.many):
                self.assertEqual(yes_paper(web, [tie]), [])

    def test_sixty_ties(self):
        told = yes_paper(RING_60, around(60))
        self.assertEqual(len(told), 60 * 59 // 2)
        self.assertTrue(is_yes_right(RING_60, around(60), told))
        self.assertIsNone(yes_paper(EYES, [0] * 60))

    def test_more_ties(self):
        for web, walk in ((RING_60, around(61)), (RING_60, around(400)), (EYES, [0] * 61), (TWO, (1, 0) * 31)):
            check_fails(self, TooMany, {"what": "ties", "limit": 60}, yes_paper, web, walk)

    def test_new_lists(self):
        yes_paper(TWO, [0, 1, 2])[0][2].append(7)
        self.assertTrue(is_yes_right(TWO, [0, 1, 2], yes_paper(TWO, [0, 1, 2])))


class NoPapers(unittest.TestCase):
    def test_lacking_rounds(self):
        for web, walk in CASES:
            for told in (no_paper(web, walk), no_paper(web, tuple(walk))):
                if plainly_sure(web, walk):
                    self.assertIsNone(told)
                else:
                    self.assertTrue(is_lacking(web, told, walk))

    def test_long_walks(self):
        for web, walk in ((EYES, [0] * 400), (TWO, [0, 1, 2, 3] * 100), (Web(1, [(0, 0)] * 80), [7] * 61)):
            self.assertTrue(is_lacking(web, no_paper(web, walk), walk))
        self.assertIsNone(no_paper(RING_60, around(400)))


class RankPapers(unittest.TestCase):
    def test_right_exactly_if_sure(self):
        for web, walk in CASES:
            for told in (rank_paper(web, walk), rank_paper(web, tuple(walk))):
                if plainly_sure(web, walk):
                    self.assertTrue(is_rank_right(web, walk, told))
                    self.assertEqual([type(told), type(told[0]), type(told[1])], [tuple, list, list])
                else:
                    self.assertIsNone(told)

    def test_greatest_walks(self):
        for web in BRANCHED[::9] + FEW + [CUT, LINE]:
            for walk in sure_walks(web)[:5]:
                self.assertTrue(is_rank_right(web, walk, rank_paper(web, walk)))

    def test_four_hundred_standings(self):
        # From the place 0 the walk that begins there is read at once, the other one from the next place on.
        self.assertEqual(len(rank_paper(RING_60, around(400))[0]), 400)
        self.assertEqual(len(rank_paper(RING_60, around(399, 1))[0]), 400)
        self.assertTrue(is_rank_right(RING_60, around(400), rank_paper(RING_60, around(400))))
        check_fails(self, TooMany, {"what": "standings", "limit": 400}, rank_paper, RING_60, around(400, 1))
        check_fails(self, TooMany, {"what": "standings", "limit": 400}, rank_paper, RING_60, around(342, 59))

    def test_a_walk_that_is_not_sure(self):
        self.assertIsNone(rank_paper(EYES, [0] * 400))
        web = Web(3, [(0, 1), (1, 0), (0, 2), (2, 0)])
        self.assertIsNone(rank_paper(web, [1, 2, 3, 0] * 99))
        check_fails(self, TooMany, {"what": "standings", "limit": 400}, rank_paper, web, [1, 2, 3, 0] * 100)

    def test_standings_that_do_not_come(self):
        # Just what comes by steps from (0, 0) counts: without its only tie one stays at the place 0.
        self.assertEqual(rank_paper(RING_60, [0]), ([((0, 0), 0)], [(0, 0)]))


class AllPapers(unittest.TestCase):
    def test_right(self):
        for web in BRANCHED + FEW + [LINE]:
            told = all_paper(web)
            self.assertTrue(is_all_right(web, told), web.ties())
            self.assertEqual([walk for walk, _ in told[0]], sure_walks(web))

    def test_loose_ones_are_shortest(self):
        for web in BRANCHED[::6] + FEW + [LINE]:
            for walk, _ in all_paper(web)[1]:
                self.assertEqual([is_sure(web, walk), is_sure(web, walk[1:]), is_sure(web, walk[:-1])],
                                 [False, True, True])

    def test_kinds(self):
        told = all_paper(TWO)
        self.assertEqual([type(told), type(told[0]), type(told[1]), type(told[0][0]), type(told[0][0][0]),
                          type(told[1][0]), type(told[1][0][0]), type(told[1][0][1])],
                         [tuple, list, list, tuple, list, tuple, list, tuple])
        told[0].pop()
        self.assertTrue(is_all_right(TWO, all_paper(TWO)))

    def test_more_ties_than_yes_papers_take(self):
        check_fails(self, TooMany, {"what": "ties", "limit": 60}, all_paper, CUT)
        # The longest one of TWO has 4 ties.
        with mock.patch("suretexts.papers.MOST_PAPER_TIES", 4):
            self.assertTrue(is_all_right(TWO, all_paper(TWO)))
        with mock.patch("suretexts.papers.MOST_PAPER_TIES", 3):
            check_fails(self, TooMany, {"what": "ties", "limit": 3}, all_paper, TWO)

    def test_more_loose_walks(self):
        # Of so many loops any two, alike or not, one behind the other, are loose.
        self.assertEqual(len(all_paper(Web(1, [(0, 0)] * 17))[1]), 289)
        for many in (18, 80):
            check_fails(self, TooMany, {"what": "loose", "limit": 300}, all_paper, Web(1, [(0, 0)] * many))
        with mock.patch("suretexts.papers.MOST_LOOSE", 25):
            self.assertEqual(len(all_paper(Web(1, [(0, 0)] * 5))[1]), 25)
            check_fails(self, TooMany, {"what": "loose", "limit": 25}, all_paper, Web(1, [(0, 0)] * 6))

    def test_more_of_greatest_walks(self):
        with mock.patch("suretexts.greatest.LONGEST_WALK", 3):
            check_fails(self, TooMany, {"what": "ties", "limit": 3}, all_paper, TWO)
        with mock.patch("suretexts.greatest.MOST_WALKS", 1):
            check_fails(self, TooMany, {"what": "walks", "limit": 1}, all_paper, TWO)
            check_fails(self, TooMany, {"what": "walks", "limit": 1}, all_paper, CUT)

    def test_long_walks_ahead_of_loose_ones(self):
        # A long ring with a short cut, and eighteen loops at a place of their own.
        ring = [(place, (place + 1) % 59) for place in range(59)]
        web = Web(60, ring + [(30, 32), (31, 59), (59, 31)] + [(59, 59)] * 18)
        check_fails(self, TooMany, {"what": "ties", "limit": 60}, all_paper, web)
        with mock.patch("suretexts.papers.MOST_PAPER_TIES", 200):
            check_fails(self, TooMany, {"what": "loose", "limit": 300}, all_paper, web)

    def test_endless(self):
        for web in RINGS:
            check_fails(self, EndlessWalks, {}, all_paper, web)
            check_fails(self, EndlessWalks, {}, all_paper, web=web)

    def test_limits(self):
        told = suretexts.papers
        self.assertEqual([told.MOST_PAPER_TIES, told.MOST_STANDINGS, told.MOST_LOOSE], [60, 400, 300])


class Wrong(unittest.TestCase):
    def test_parameters(self):
        for call in (yes_paper, no_paper, rank_paper):
            check_parameters(self, call, [
                ("web", TWO, WRONG_WEBS, InvalidWeb), ("walk", [0, 1], WRONG_WALKS, InvalidWalk)])
        check_parameters(self, all_paper, [("web", TWO, WRONG_WEBS, InvalidWeb)])

    def test_not_close(self):
        for web, walk in OPEN:
            for call in (yes_paper, no_paper, rank_paper):
                check_fails(self, NotClose, {}, call, web, walk)
                check_fails(self, NotClose, {}, call, web=web, walk=tuple(walk))
                check_fails(self, InvalidWalk, {"value": [80]}, call, web, [80])
            check_fails(self, NotClose, {}, all_paper, web)
        # NotClose comes ahead of TooMany.
        for call in (yes_paper, rank_paper):
            check_fails(self, NotClose, {}, call, Web(2, [(0, 0)]), [0] * 400)
