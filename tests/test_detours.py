"""Points [3b2] and [3b5]: detours, and some covering round."""

import unittest

from suretexts.detours import detoured, some_round
from suretexts.errors import InvalidAround, InvalidRound, InvalidWalk, InvalidWeb, NotClose
from suretexts.roads import road_around
from suretexts.webs import Web
from tests.support import check_fails, check_parameters
from tests.test_roads import WRONG_ROADS, leads_around
from tests.test_webs import WRONG_ROUNDS, WRONG_WALKS, WRONG_WEBS
from tests.webs import CLOSE, FEW, OPEN, goes_round, is_lacking, rounds, walks

TWO = Web(3, [(0, 1), (1, 0), (0, 2), (2, 0)])
EYES = Web(1, [(0, 0), (0, 0)])
RING_60 = Web(60, [(place, (place + 1) % 60) for place in range(60)])
LINE_60 = Web(60, [(place, place + 1) for place in range(59)] + [(place, place - 1) for place in range(1, 21)]
              + [(59, 0)])


class SomeRound(unittest.TestCase):
    def test_covering_and_short(self):
        for web in CLOSE + FEW + [RING_60, LINE_60, Web(1, [(0, 0)] * 80)]:
            told = some_round(web)
            self.assertTrue(goes_round(web, told))
            self.assertEqual(set(told), set(range(web.many)))
            self.assertLessEqual(len(told), web.many * web.places)

    def test_single_tie(self):
        self.assertEqual(some_round(Web(1, [(0, 0)])), [0])

    def test_parameters(self):
        check_parameters(self, some_round, [("web", TWO, WRONG_WEBS, InvalidWeb)])

    def test_not_close(self):
        for web in [web for web, _ in OPEN] + [Web(1, []), Web(60, [])]:
            check_fails(self, NotClose, {}, some_round, web)
            check_fails(self, NotClose, {}, some_round, web=web)


class Detoured(unittest.TestCase):
    def check(self, web, walk, around, tour):
        told = detoured(web, walk, around, tour)
        self.assertTrue(is_lacking(web, told, walk), (web.ties(), walk, around, tour))
        self.assertLessEqual(set(tour), set(told))

    def covering(self, web, longest):
        return [tour for tour in rounds(web, longest) if len(set(tour)) == web.many]

    def test_all_roads_and_tours(self):
        for web in [EYES, Web(2, [(0, 1), (1, 0), (0, 0)]), Web(1, [(0, 0)] * 3)] + CLOSE[::120]:
            tours, roads = self.covering(web, 5), walks(web, 2)
            for walk in walks(web, 4):
                for road in roads:
                    for j in range(1, len(walk)):
                        for i in range(1, j + 1):
                            if leads_around(web, walk, i, j, road):
                                for tour in tours[::3]:
                                    self.check(web, walk, (i, j, road), tour)

    def test_few_webs(self):
        for web in FEW:
            tours = self.covering(web, 9)[::4] + [some_round(web), some_round(web) * 3]
            for walk in walks(web, 5)[::2]:
                around = road_around(web, walk)
                if around is not None:
                    for tour in tours:
                        self.check(web, walk, around, tour)

    def test_walks_longer_than_tours(self):
        for many in range(2, 9):
            self.check(EYES, [0] * many, (1, many - 1, [1]), [0, 1])
            self.check(EYES, [0, 1] * many + [0], (1, 2 * many, [1, 1]), [0, 1])
            self.check(EYES, [0, 1] * many + [0], (1, 2 * many, [1]), [1, 0])
        self.check(TWO, [2, 3, 0, 1] * 100, road_around(TWO, [2, 3, 0, 1] * 100), [0, 1, 2, 3])

    def test_stretches_over_the_end(self):
        for tour in ([0, 0, 1], [0, 1, 0], [1, 0, 0]):
            self.check(EYES, [0, 0], (1, 1, [1]), tour)

    def test_stretches_that_overlap(self):
        for many in range(2, 8):
            self.check(EYES, [0] * many, (1, many - 1, [1]), [0] * 9 + [1])
            self.check(EYES, [0] * many, (2, 2, [1, 1, 1]) if many > 2 else (1, 1, [1]), [0] * 9 + [1])
        self.check(Web(1, [(0, 0)] * 3), [0, 1, 0, 1, 0], (1, 4, [2]), [0, 1, 0, 1, 0, 1, 0, 2])

    def test_no_stretch_to_go_around(self):
        self.assertTrue(is_lacking(EYES, detoured(EYES, [0, 0], (1, 1, [1]), [0, 1]), [0, 0]))

    def test_longest_tours(self):
        for walk, around in (([0, 0], (1, 1, [1])), ([0] * 400, (1, 399, [1] * 400)), ([0] * 200, (9, 99, [1]))):
            self.check(EYES, walk, around, [0] * 399 + [1])
            for tour in ([0] * 400 + [1], [0, 1] * 200 + [0]):
                check_fails(self, InvalidRound, {"value": tour}, detoured, EYES, walk, around, tour)
        self.check(EYES, [0, 1] * 199 + [0], (1, 398, [1] * 400), [0, 1] * 200)

    def test_not_covering(self):
        for tour in ([0, 1], [2, 3], [1, 0] * 200, (0, 1)):
            check_fails(self, InvalidRound, {"value": tour}, detoured, TWO, [1, 0], (1, 1, [2, 3]), tour)

    def test_tuples_and_copies(self):
        walk, around, tour = [1, 0], (1, 1, [2, 3]), [0, 1, 0, 1, 2, 3]
        told = detoured(TWO, walk, around, tour)
        self.assertTrue(is_lacking(TWO, detoured(TWO, tuple(walk), (1, 1, (2, 3)), tuple(tour)), walk))
        told.append(7)
        self.assertEqual([walk, around, tour], [[1, 0], (1, 1, [2, 3]), [0, 1, 0, 1, 2, 3]])

    def test_roads_of_another_walk(self):
        for around in ((1, 1, [0, 1]), (1, 2, [2, 3])):
            check_fails(self, InvalidAround, {"value": around}, detoured, TWO, [1, 0], around, [0, 1, 2, 3])
        check_fails(self, InvalidAround, {"value": (1, 1, [2, 3])}, detoured, TWO, [0, 1], (1, 1, [2, 3]), [0, 1, 2, 3])

    def test_parameters(self):
        check_parameters(self, detoured, [
            ("web", TWO, WRONG_WEBS, InvalidWeb), ("walk", [1, 0], WRONG_WALKS, InvalidWalk),
            ("around", (1, 1, [2, 3]), WRONG_ROADS, InvalidAround),
            ("tour", [0, 1, 2, 3], WRONG_ROUNDS + [[0, 1], [0, 1, 2, 3] * 101], InvalidRound)])

    def test_not_close(self):
        # A place without a tie: there is a round with all ties, but the web isn't close.
        web = Web(2, [(0, 0), (0, 0)])
        check_fails(self, NotClose, {}, detoured, web, [0, 0], (1, 1, [1]), [0, 1])
        check_fails(self, InvalidRound, {"value": [0]}, detoured, web, [0, 0], (1, 1, [1]), [0])
        check_fails(self, InvalidAround, {"value": 7}, detoured, web, [0, 0], 7, [0])
        check_fails(self, InvalidRound, {"value": [0]}, detoured, Web(2, [(0, 0), (0, 1), (0, 0)]), [0, 0],
                    (1, 1, [2]), [0])
