"""Points [2b4] and [2b5]: folding and unfolding."""

import unittest

from suretexts.errors import InvalidFolding, InvalidWalk, InvalidWeb, NotClose, TooMany
from suretexts.folds import Folding, folded_walk, unfolded
from suretexts.parts import is_close, is_single_ring
from suretexts.webs import Web, back_web, covers, is_walk, walk_in_round
from tests.support import HUGE, LISTS, NUMBERS, ODD, STRINGS, check_fails, check_parameters
from tests.test_webs import WRONG_WALKS, WRONG_WEBS
from tests.webs import CLOSE, FEW, SMALL, rounds, walks

TWO = Web(3, [(0, 1), (1, 0), (0, 2), (2, 0)])
RING_60 = Web(60, [(place, (place + 1) % 60) for place in range(60)])
# All places but one are passed: the first stretch has one tie, the other one sixty.
LONG = Web(60, [(0, 0)] + [(place, (place + 1) % 60) for place in range(60)])
# No place is passed.
FULL = Web(3, [(0, 1), (1, 2), (2, 0), (1, 0), (2, 1), (0, 2)])
WEBS = CLOSE[::2] + FEW + [back_web(web) for web in FEW] + [FULL]

WRONG_FOLDINGS = ODD + NUMBERS + STRINGS + LISTS + [TWO, Folding]
WRONG_FOLDED_WALKS = ODD + NUMBERS + STRINGS + [
    [], (), [2], [-1], [0, 2], [True], [0, False], [None], ["0"], [[0]], ((0, 1),), [HUGE], {0: 1}, [0] * 401]


class Folded(unittest.TestCase):
    def test_kept_places(self):
        for web in WEBS + [RING_60, LONG]:
            ends = web.ties()
            wanted = [place for place in range(web.places) if is_single_ring(web)
                      or [near for near, _ in ends].count(place) != 1 or [far for _, far in ends].count(place) != 1]
            folding = Folding(web)
            self.assertEqual(folding.kept(), wanted)
            self.assertEqual(folding.folded().places, len(wanted))

    def test_stretches(self):
        for web in WEBS + [RING_60, LONG]:
            folding = Folding(web)
            ties, kept, stretches = web.ties(), folding.kept(), folding.stretches()
            self.assertEqual(sorted(tie for stretch in stretches for tie in stretch), list(range(web.many)))
            self.assertEqual([stretch[0] for stretch in stretches],
                             [tie for tie in range(web.many) if ties[tie][0] in kept])
            for stretch in stretches:
                self.assertTrue(is_walk(web, stretch))
                self.assertFalse(any(ties[tie][0] in kept for tie in stretch[1:]))
            self.assertEqual([(kept[near], kept[far]) for near, far in folding.folded().ties()],
                             [(ties[stretch[0]][0], ties[stretch[-1]][1]) for stretch in stretches])

    def test_folded_webs_are_close_and_not_greater(self):
        for web in WEBS + [RING_60, LONG]:
            folded = Folding(web).folded()
            self.assertTrue(is_close(folded))
            self.assertLessEqual(folded.places, web.places)
            self.assertLessEqual(folded.many, web.many)

    def test_folded_again(self):
        for web in WEBS + [RING_60, LONG]:
            folded = Folding(web).folded()
            again = Folding(folded)
            self.assertEqual(again.folded(), folded)
            self.assertEqual(again.stretches(), [[tie] for tie in range(folded.many)])

    def test_single_rings(self):
        for web in (RING_60, Web(1, [(0, 0)]), Web(3, [(2, 0), (0, 1), (1, 2)])):
            folding = Folding(web)
            self.assertEqual(folding.kept(), list(range(web.places)))
            self.assertEqual(folding.stretches(), [[tie] for tie in range(web.many)])
            self.assertEqual(folding.folded(), web)

    def test_all_but_one_are_passed(self):
        folding = Folding(LONG)
        self.assertEqual([folding.kept(), folding.folded()], [[0], Web(1, [(0, 0), (0, 0)])])
        self.assertEqual(folding.stretches(), [[0], list(range(1, 61))])

    def test_none_is_passed(self):
        folding = Folding(FULL)
        self.assertEqual([folding.kept(), folding.folded()], [[0, 1, 2], FULL])
        self.assertEqual(folding.stretches(), [[tie] for tie in range(6)])

    def test_numbers_of_stretches(self):
        folding = Folding(Web(3, [(2, 0), (0, 2), (1, 0), (0, 1), (0, 0)]))
        self.assertEqual([folding.kept(), folding.stretches()], [[0], [[1, 0], [3, 2], [4]]])
        folding = Folding(Web(4, [(0, 1), (1, 3), (3, 3), (3, 2), (2, 0), (1, 1)]))
        self.assertEqual([folding.kept(), folding.stretches(), folding.folded()],
                         [[1, 3], [[1], [2], [3, 4, 0], [5]], Web(2, [(0, 1), (1, 1), (1, 0), (0, 0)])])

    def test_copied_and_new(self):
        folding = Folding(TWO)
        folding.kept().append(1)
        folding.stretches()[0].append(1)
        folding.stretches().append([1])
        folding.folded().ties().append((0, 0))
        self.assertEqual([folding.web(), folding.folded(), folding.kept(), folding.stretches()],
                         [TWO, Web(1, [(0, 0), (0, 0)]), [0], [[0, 1], [2, 3]]])
        self.assertIsNot(folding.web(), folding.web())
        self.assertIsNot(folding.folded(), folding.folded())
        unfolded(folding, [0]).append(7)
        folded_walk(folding, [0])[0].append(7)
        self.assertEqual([unfolded(folding, [0]), folded_walk(folding, [0])], [[0, 1], ([0], 0, 1)])

    def test_not_close(self):
        for web in SMALL[::5] + [Web(1, []), Web(60, []), Web(2, [(0, 1)]), Web(2, [(0, 0), (1, 1)])]:
            if not is_close(web):
                check_fails(self, NotClose, {}, Folding, web)
                check_fails(self, NotClose, {}, Folding, web=web)

    def test_parameters(self):
        check_parameters(self, Folding, [("web", TWO, WRONG_WEBS, InvalidWeb)])


class Unfolded(unittest.TestCase):
    def test_stretches_one_behind_the_other(self):
        for web in WEBS:
            folding = Folding(web)
            for walk in walks(folding.folded(), 3):
                ties = unfolded(folding, walk)
                self.assertEqual(ties, [tie for number in walk for tie in folding.stretches()[number]])
                self.assertTrue(is_walk(web, ties))
                self.assertEqual(unfolded(folding, tuple(walk)), ties)
                self.assertEqual(folded_walk(folding, ties), (walk, 0, 0))

    def test_covering_rounds_of_both(self):
        for web in FEW[:4] + CLOSE[::40]:
            folding = Folding(web)
            for tour in rounds(folding.folded(), 4):
                self.assertEqual(covers(web, unfolded(folding, tour)), covers(folding.folded(), tour))

    def test_most_ties(self):
        folding = Folding(LONG)
        self.assertEqual(len(unfolded(folding, [1] * 6 + [0] * 40)), 400)
        check_fails(self, TooMany, {"what": "ties", "limit": 400}, unfolded, folding, [1] * 6 + [0] * 41)
        check_fails(self, TooMany, {"what": "ties", "limit": 400}, unfolded, folding, [1] * 7)
        check_fails(self, TooMany, {"what": "ties", "limit": 400}, unfolded, folding=folding, walk=[1] * 400)
        self.assertEqual(unfolded(folding, [0] * 400), [0] * 400)

    def test_walks_of_the_folded_web(self):
        # Of the web itself the tie 3 is there, of the folded one it isn't.
        check_fails(self, InvalidWalk, {"value": [3]}, unfolded, Folding(TWO), [3])
        check_fails(self, InvalidWalk, {"value": [2, 1]}, unfolded, Folding(TWO), [2, 1])

    def test_parameters(self):
        check_parameters(self, unfolded, [
            ("folding", Folding(TWO), WRONG_FOLDINGS, InvalidFolding),
            ("walk", [0, 1], WRONG_FOLDED_WALKS, InvalidWalk)])


class FoldedWalks(unittest.TestCase):
    def test_fewest_ties(self):
        for web in WEBS:
            folding = Folding(web)
            sizes = [len(stretch) for stretch in folding.stretches()]
            for walk in walks(web, 4):
                folded, ahead, behind = told = folded_walk(folding, walk)
                self.assertIs(type(told), tuple)
                ties = unfolded(folding, folded)
                self.assertEqual(ties[ahead:len(ties) - behind], walk)
                # With a stretch less, at the begin or the end, the walk is there no more.
                self.assertLess(ahead, sizes[folded[0]])
                self.assertLess(behind, sizes[folded[-1]])
                self.assertEqual(folded_walk(folding, tuple(walk)), told)

    def test_just_one(self):
        for web in FEW:
            folding = Folding(web)
            told = [(folded, unfolded(folding, folded)) for folded in walks(folding.folded(), 3)]
            for walk in walks(web, 3):
                found = [(folded, at, len(ties) - at - len(walk)) for folded, ties in told
                         for at in range(len(ties)) if ties[at:at + len(walk)] == walk]
                fewest = min(len(row[0]) for row in found)
                self.assertEqual([row for row in found if len(row[0]) == fewest], [folded_walk(folding, walk)])

    def test_within_a_stretch(self):
        folding = Folding(LONG)
        self.assertEqual(folded_walk(folding, [7]), ([1], 6, 53))
        self.assertEqual(folded_walk(folding, [7, 8, 9]), ([1], 6, 51))
        self.assertEqual(folded_walk(folding, [60, 0, 0, 1]), ([1, 0, 0, 1], 59, 59))
        self.assertEqual(folded_walk(folding, list(range(1, 61)) * 2), ([1, 1], 0, 0))
        self.assertEqual(folded_walk(folding, list(range(2, 61)) + list(range(1, 60))), ([1, 1], 1, 1))
        self.assertEqual(folded_walk(folding, (list(range(1, 61)) * 7)[10:410]), ([1] * 7, 10, 10))
        self.assertEqual(folded_walk(folding, [0] * 400), ([0] * 400, 0, 0))

    def test_single_rings(self):
        folding = Folding(RING_60)
        walk = (list(range(60)) * 7)[:400]
        self.assertEqual(folded_walk(folding, walk), (walk, 0, 0))

    def test_walks_in_rounds_and_folded_ones(self):
        web = FEW[0]
        folding = Folding(web)
        for tour in rounds(folding.folded(), 3):
            for walk in walks(web, 4):
                self.assertEqual(walk_in_round(web, unfolded(folding, tour), walk),
                                 walk_in_round(folding.folded(), tour, folded_walk(folding, walk)[0]))

    def test_parameters(self):
        check_parameters(self, folded_walk, [
            ("folding", Folding(TWO), WRONG_FOLDINGS, InvalidFolding), ("walk", [0, 1], WRONG_WALKS, InvalidWalk)])
