"""Points [2a3] to [2a5]: coming to places, and parts."""

import unittest
from itertools import combinations

from suretexts.errors import InvalidPart, InvalidPlace, InvalidWeb, InvalidWithout
from suretexts.parts import is_close, is_single_ring, part_web, parts_of, plain_parts, reach, way
from suretexts.webs import Web, is_walk, leads
from tests.support import NUMBERS, ODD, STRINGS, check_parameters
from tests.test_webs import WRONG_PLACES, WRONG_WEBS
from tests.webs import FEW, SMALL, comes_to, plainly_close, walks

TWO = Web(3, [(0, 1), (1, 0), (0, 2), (2, 0)])
CHAIN = Web(3, [(2, 2), (0, 1), (1, 0), (1, 2)])
RING_60 = Web(60, [(place, (place + 1) % 60) for place in range(60)])
LINE_60 = Web(60, [(place, place + 1) for place in range(59)] + [(0, 0)])

WRONG_WITHOUTS = ODD + NUMBERS + STRINGS + [
    ["0"], [[0]], [[[]]], ((0, 1),), [4], [-1], [0, 4], [True], [0, False], (0, True), [None], {0: 1}]
WRONG_PARTS = ODD + NUMBERS + STRINGS + [
    [], (), ["0"], [[0]], [[0, 1, 2]], ((0, 1, 2),), [0], [0, 1], [2, 1, 0], [0, 2, 1], [0, 1, 2, 3], [0, 1, 1, 2],
    [False, 1, 2], [0, True, 2], (0, True, 2), [0, 1, None], {0: 1, 1: 1, 2: 1}]


def parts(web):
    reached = comes_to(web)
    told = {tuple(far for far in range(web.places) if far in reached[near] and near in reached[far])
            for near in range(web.places)}
    return sorted(list(part) for part in told)


class Reach(unittest.TestCase):
    def test_without_any_ties(self):
        for web in SMALL[::3] + FEW:
            for many in range(min(web.many, 3) + 1):
                for without in combinations(range(web.many), many):
                    reached = comes_to(web, without)
                    for place in range(web.places):
                        self.assertEqual(reach(web, place, list(without)), sorted(reached[place]))

    def test_without_in_any_sequence(self):
        self.assertEqual([reach(TWO, 0, (2, 0)), reach(TWO, 0, [0, 2, 0]), reach(TWO, 1, [3, 2])], [[0], [0], [0, 1]])

    def test_edges(self):
        self.assertEqual(reach(Web(1, []), 0, []), [0])
        self.assertEqual([reach(LINE_60, 0, []), reach(LINE_60, 0, [30]), reach(LINE_60, 59, ())],
                         [list(range(60)), list(range(31)), [59]])

    def test_parameters(self):
        check_parameters(self, reach, [
            ("web", TWO, WRONG_WEBS, InvalidWeb), ("place", 0, WRONG_PLACES, InvalidPlace),
            ("without", [0], WRONG_WITHOUTS, InvalidWithout)])


class Ways(unittest.TestCase):
    def test_shortest(self):
        for web in SMALL[::3] + FEW:
            told = [(leads(web, walk), walk) for walk in walks(web, web.places)]
            for without in [[]] + [[tie] for tie in range(web.many)]:
                for near in range(web.places):
                    for far in range(web.places):
                        lengths = [len(walk) for ends, walk in told
                                   if ends == (near, far) and not any(tie in without for tie in walk)]
                        found = way(web, near, far, without)
                        if found is None:
                            self.assertEqual(lengths, [])
                        else:
                            self.assertIs(type(found), list)
                            self.assertTrue(is_walk(web, found))
                            self.assertEqual([leads(web, found), len(found)], [(near, far), min(lengths)])
                            self.assertFalse(any(tie in without for tie in found))

    def test_back_to_where_it_begins(self):
        self.assertEqual([way(Web(1, [(0, 0)]), 0, 0, []), way(Web(1, [(0, 0), (0, 0)]), 0, 0, [0])], [[0], [1]])
        self.assertIsNone(way(Web(1, []), 0, 0, []))
        self.assertIsNone(way(Web(1, [(0, 0)]), 0, 0, [0]))
        self.assertIsNone(way(Web(2, [(0, 1)]), 0, 0, []))
        self.assertEqual(way(RING_60, 7, 7, []), list(range(7, 60)) + list(range(7)))

    def test_far(self):
        self.assertEqual(way(LINE_60, 0, 59, []), list(range(59)))
        self.assertIsNone(way(LINE_60, 59, 0, []))
        self.assertIsNone(way(LINE_60, 0, 59, (58,)))

    def test_parameters(self):
        check_parameters(self, way, [
            ("web", TWO, WRONG_WEBS, InvalidWeb), ("near", 0, WRONG_PLACES, InvalidPlace),
            ("far", 1, WRONG_PLACES, InvalidPlace), ("without", [2], WRONG_WITHOUTS, InvalidWithout)])


class Parts(unittest.TestCase):
    def test_both_ways_alike(self):
        for web in SMALL + FEW + [RING_60, LINE_60]:
            wanted = parts(web)
            self.assertEqual(parts_of(web), wanted)
            self.assertEqual(plain_parts(web), wanted)
            self.assertEqual(sorted(place for part in wanted for place in part), list(range(web.places)))

    def test_parts_of_one_place(self):
        self.assertEqual(parts_of(Web(3, [(1, 1)])), [[0], [1], [2]])
        self.assertEqual(parts_of(Web(1, [])), [[0]])
        self.assertEqual(parts_of(LINE_60), [[place] for place in range(60)])

    def test_parts_apart(self):
        web = Web(60, [(k, (k + 2) % 60) for k in range(60)] + [(k, (k + 1)) for k in range(0, 40, 2)])
        self.assertEqual(parts_of(web), [list(range(0, 60, 2)), list(range(1, 60, 2))])
        self.assertEqual(plain_parts(web), parts_of(web))

    def test_close(self):
        for web in SMALL + FEW + [RING_60, LINE_60, Web(60, []), Web(2, [(0, 0)])]:
            self.assertIs(is_close(web), plainly_close(web))
            self.assertIs(is_single_ring(web), plainly_close(web) and web.many == web.places)

    def test_no_place_without_a_tie_is_close(self):
        self.assertEqual([is_close(Web(1, [])), is_close(Web(1, [(0, 0)])), is_close(Web(2, [(0, 0), (0, 0)]))],
                         [False, True, False])

    def test_single_rings(self):
        self.assertEqual([is_single_ring(web) for web in (
            Web(1, [(0, 0)]), Web(1, [(0, 0), (0, 0)]), Web(1, []), Web(2, [(0, 0), (1, 1)]), RING_60)],
            [True, False, False, False, True])
        for web in SMALL:
            if is_single_ring(web):
                for place in range(web.places):
                    self.assertEqual([len(web.ties_from(place)), len(web.ties_to(place))], [1, 1])

    def test_parameters(self):
        for call in (parts_of, plain_parts, is_close, is_single_ring):
            check_parameters(self, call, [("web", TWO, WRONG_WEBS, InvalidWeb)])


class PartWebs(unittest.TestCase):
    def test_places_numbered_anew(self):
        for web in SMALL + FEW:
            for part in parts_of(web):
                told = part_web(web, part)
                within, numbers = told
                ties = web.ties()
                self.assertIs(type(told), tuple)
                self.assertEqual(numbers, [tie for tie, ends in enumerate(ties) if ends[0] in part and ends[1] in part])
                self.assertEqual(within.places, len(part))
                self.assertEqual([(part[near], part[far]) for near, far in within.ties()],
                                 [ties[tie] for tie in numbers])
                self.assertTrue(is_close(within) or (within.places, within.many) == (1, 0))

    def test_tuple_for_a_list(self):
        self.assertEqual(part_web(CHAIN, (0, 1)), (Web(2, [(0, 1), (1, 0)]), [1, 2]))
        self.assertEqual(part_web(CHAIN, [2]), (Web(1, [(0, 0)]), [0]))

    def test_parameters(self):
        check_parameters(self, part_web, [
            ("web", TWO, WRONG_WEBS, InvalidWeb), ("part", [0, 1, 2], WRONG_PARTS, InvalidPart)])
        check_parameters(self, part_web, [
            ("web", CHAIN, WRONG_WEBS, InvalidWeb),
            ("part", [0, 1], [[0], [1], [1, 0], [0, 1, 2], [0, 2], [3], [2, 2], [[2]], [False, 1]], InvalidPart)])
