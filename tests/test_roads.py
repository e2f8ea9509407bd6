"""Points [7] and [3b1] to [3b4]: roads around walks, sure walks, and how they go on."""

import unittest

from suretexts.avoiding import is_sure_plain, lacking_round
from suretexts.errors import InvalidWalk, InvalidWeb, NotClose
from suretexts.parts import is_single_ring
from suretexts.roads import comes_from, goes_on, is_road_around, is_sure, road_around
from suretexts.webs import Web, is_walk
from tests.support import HUGE, LISTS, NUMBERS, ODD, STRINGS, check_fails, check_parameters
from tests.test_avoiding import some
from tests.test_webs import WRONG_WALKS, WRONG_WEBS
from tests.webs import CLOSE, FEW, OPEN, plainly_sure, reads, rounds, walks

TWO = Web(3, [(0, 1), (1, 0), (0, 2), (2, 0)])
EYES = Web(1, [(0, 0), (0, 0)])
RING_60 = Web(60, [(place, (place + 1) % 60) for place in range(60)])
CASES = some(CLOSE[::3], 4, 2) + some(FEW, 4, 2) + some(FEW[:2], 6, 5) + some([EYES], 6, 1)

# For the walk 1, 0 of TWO, of which (1, 1, [2, 3]) is a road around.
WRONG_ROADS = ODD + NUMBERS + STRINGS + LISTS + [
    [1, 1, [2, 3]], (1, 1), (1, 1, [2, 3], 0), (0, 1, [2, 3]), (1, 0, [2, 3]), (1, 2, [2, 3]), (2, 2, [2, 3]),
    (-1, 1, [2, 3]), (1, -1, [2, 3]), (True, 1, [2, 3]), (1, True, [2, 3]), (None, 1, [2, 3]), (1, "1", [2, 3]),
    ([1], 1, [2, 3]), (HUGE, HUGE, [2, 3]), (1, 1, None), (1, 1, 2), (1, 1, "23"), (1, 1, {2: 3}), (1, 1, {2, 3}),
    (1, 1, []), (1, 1, ()), (1, 1, [2]), (1, 1, [3, 2]), (1, 1, [2, 2]), (1, 1, [2, 3, 0, 1]), (1, 1, [0, 1, 2, 3]),
    (1, 1, [0, 1]), (1, 1, [4]), (1, 1, [-1]), (1, 1, [2, HUGE]), (1, 1, [2, None]), (1, 1, [[2, 3]]),
    (1, 1, [2, True]), (1, 1, [2, 3] * 201), [(1, 1, [2, 3])], ((1, 1, [2, 3]),)]


def leads_around(web, walk, i, j, road):
    """Whether a walk is a road from place(j) to place(i) of this pair."""
    ties = web.ties()
    return (1 <= i <= j < len(walk) and ties[road[0]][0] == ties[walk[j]][0] and ties[road[-1]][1] == ties[walk[i]][0]
            and walk[j] not in road and walk[i - 1] not in road)


class Roads(unittest.TestCase):
    def test_a_road_exactly_if_not_sure(self):
        for web, walk in CASES:
            told = road_around(web, walk)
            if plainly_sure(web, walk):
                self.assertIsNone(told)
            else:
                i, j, road = told
                self.assertEqual([type(told), type(i), type(j), type(road)], [tuple, int, int, list])
                self.assertTrue(is_walk(web, road) and leads_around(web, walk, i, j, road))
                self.assertIs(is_road_around(web, walk, told), True)

    def test_any_pair(self):
        for web in FEW[:3] + CLOSE[::50]:
            for walk in walks(web, 4)[::4]:
                for road in walks(web, 4):
                    for i in range(-1, 6):
                        for j in range(-1, 6):
                            self.assertIs(is_road_around(web, walk, (i, j, road)), leads_around(web, walk, i, j, road))

    def test_one_place_gone_out_and_back(self):
        # For i = j the road sets out otherwise than the walk, and comes back otherwise.
        web = Web(1, [(0, 0)] * 3)
        self.assertEqual([is_road_around(web, [0, 1], (1, 1, [tie])) for tie in range(3)], [False, False, True])
        self.assertEqual([is_road_around(web, [0, 0], (1, 1, [tie])) for tie in range(3)], [False, True, True])
        self.assertEqual([is_road_around(web, [0, 1], (1, 1, road)) for road in ([2, 2], [2, 1], [0, 2], [2, 0, 2])],
                         [True, False, False, False])

    def test_longest_roads(self):
        # The road is any walk, not the shortest one alone.
        web = Web(1, [(0, 0)] * 2)
        self.assertEqual([is_road_around(web, [0, 0], (1, 1, [1] * many)) for many in (1, 400, 401)],
                         [True, True, False])

    def test_one_tie(self):
        for web in CLOSE[::5] + FEW:
            for tie in range(web.many):
                self.assertIsNone(road_around(web, [tie]))
                for road in walks(web, 2):
                    for i, j in ((0, 0), (0, 1), (1, 1), (1, 0)):
                        self.assertIs(is_road_around(web, [tie], (i, j, road)), False)

    def test_any_value(self):
        self.assertIs(is_road_around(TWO, [1, 0], (1, 1, [2, 3])), True)
        self.assertIs(is_road_around(TWO, (1, 0), (1, 1, (2, 3))), True)
        self.assertIs(is_road_around(TWO, [1, 0], (1, 1, [2, 3, 2, 3])), True)
        for value in WRONG_ROADS:
            shown = repr(value)
            with self.subTest(value=value):
                self.assertIs(is_road_around(TWO, [1, 0], value), False)
                self.assertIs(is_road_around(web=TWO, walk=[1, 0], value=value), False)
                self.assertEqual(repr(value), shown)


class Sure(unittest.TestCase):
    def test_both_ways_alike(self):
        for web, walk in some(CLOSE, 4, 1) + CASES:
            wanted = plainly_sure(web, walk)
            self.assertIs(is_sure(web, walk), wanted)
            self.assertIs(is_sure(web, tuple(walk)), wanted)
            self.assertIs(is_sure_plain(web, walk), wanted)

    def test_going_through_the_rounds(self):
        for web in CLOSE + FEW[:2]:
            covering = [tour for tour in rounds(web, 6) if len(set(tour)) == web.many]
            for walk in walks(web, 3):
                lacking = lacking_round(web, walk)
                known = covering if lacking is None else covering + [lacking]
                self.assertIs(is_sure(web, walk), all(reads(tour, walk) for tour in known))

    def test_stretches(self):
        for web in CLOSE[::7] + FEW:
            told = {tuple(walk): is_sure(web, walk) for walk in walks(web, 4)}
            for walk, sure in told.items():
                if len(walk) == 1:
                    self.assertIs(sure, True)
                elif sure:
                    self.assertEqual([told[walk[1:]], told[walk[:-1]]], [True, True])

    def test_single_rings(self):
        walk = (list(range(60)) * 7)[:400]
        self.assertEqual([is_sure(RING_60, walk), road_around(RING_60, walk)], [True, None])
        self.assertEqual([is_sure(Web(1, [(0, 0)]), [0] * 400), is_sure(EYES, [0] * 400)], [True, False])

    def test_spoilt_at_the_very_end(self):
        web = Web(60, RING_60.ties() + [(30, 31)])
        walk = [tie for tie in (list(range(60)) * 2)[31:91]]
        self.assertEqual([is_sure(web, walk[:-1]), is_sure(web, walk), is_sure(web, walk[1:])], [True, True, True])
        self.assertEqual([is_sure(web, [60] + walk[:-1] + [30]), is_sure(web, [30] + walk[:-1] + [30])], [True, False])


class GoingOn(unittest.TestCase):
    def test_on_and_from(self):
        for web, walk in CASES[::3]:
            ties = web.ties()
            near, far = ties[walk[0]][0], ties[walk[-1]][1]
            on = [tie for tie in range(web.many) if ties[tie][0] == far and plainly_sure(web, walk + [tie])]
            back = [tie for tie in range(web.many) if ties[tie][1] == near and plainly_sure(web, [tie] + walk)]
            self.assertEqual([goes_on(web, walk), comes_from(web, walk)], [on, back])
            self.assertEqual([goes_on(web, tuple(walk)), comes_from(web, tuple(walk))], [on, back])
            if not plainly_sure(web, walk):
                self.assertEqual([on, back], [[], []])

    def test_several(self):
        web = Web(3, [(0, 1), (0, 1), (1, 2), (2, 0), (2, 0)])
        self.assertEqual([comes_from(web, [2]), goes_on(web, [2]), goes_on(web, [0]), comes_from(web, [0])],
                         [[0, 1], [3, 4], [2], []])

    def test_not_sure(self):
        self.assertEqual([goes_on(TWO, [1, 0]), comes_from(TWO, [1, 0])], [[], []])
        # Not sure itself, however its last tie alone would go on.
        self.assertEqual([goes_on(TWO, [1, 0, 1]), goes_on(TWO, [0, 1]), comes_from(TWO, [0, 1, 0])], [[], [2], []])

    def test_single_rings_go_on_without_end(self):
        for many in (1, 59, 60, 399, 400):
            walk = (list(range(60)) * 7)[:many]
            self.assertEqual([goes_on(RING_60, walk), comes_from(RING_60, walk)], [[many % 60], [59]])
            self.assertIs(is_single_ring(RING_60), True)

    def test_nothing_is_spoilt_for_later(self):
        self.assertIsNot(goes_on(TWO, [0, 1]), goes_on(TWO, [0, 1]))
        road_around(TWO, [1, 0])[2].append(7)
        self.assertEqual(road_around(TWO, [1, 0]), (1, 1, [2, 3]))


class Parameters(unittest.TestCase):
    def test_parameters(self):
        rows = [("web", TWO, WRONG_WEBS, InvalidWeb), ("walk", [1, 0], WRONG_WALKS, InvalidWalk)]
        for call in (road_around, is_sure, goes_on, comes_from):
            check_parameters(self, call, rows)
        check_parameters(self, is_road_around, rows + [("value", (1, 1, [2, 3]), [], None)])

    def test_not_close(self):
        for web, walk in OPEN:
            for call in (road_around, is_sure, goes_on, comes_from):
                check_fails(self, NotClose, {}, call, web, walk)
                check_fails(self, NotClose, {}, call, web=web, walk=tuple(walk))
                check_fails(self, InvalidWalk, {"value": [80]}, call, web, [80])
            for value in (None, (1, 1, [0]), 7):
                check_fails(self, NotClose, {}, is_road_around, web, walk, value)
                check_fails(self, InvalidWalk, {"value": [80]}, is_road_around, web, [80], value)
