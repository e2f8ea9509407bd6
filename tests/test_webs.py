"""Points [6], [2a1] and [2a2]: webs, walks, rounds."""

import unittest
from itertools import product

from suretexts.errors import (
    InvalidPlace, InvalidPlaces, InvalidRound, InvalidTies, InvalidWalk, InvalidWeb)
from suretexts.webs import Web, back_web, covers, is_round, is_walk, leads, walk_in_round
from tests.support import HUGE, LISTS, NUMBERS, ODD, STRINGS, WRONG_COUNTS, check_parameters
from tests.webs import FEW, SMALL, rounds, walks

TWO = Web(3, [(0, 1), (1, 0), (0, 2), (2, 0)])
LOOP = Web(1, [(0, 0)])

WRONG_WEBS = ODD + NUMBERS + STRINGS + LISTS + [(1, [(0, 0)])]
WRONG_PLACES = WRONG_COUNTS + [3, 4, 60, HUGE]
WRONG_WALKS = ODD + NUMBERS + STRINGS + [
    [], (), ["0"], [[0]], [[[]]], ((0, 1),), [4], [-1], [HUGE], [-HUGE], [0, 4], [True], [0, True], [False], [1, False],
    [None], [0, None], [0, 0], [0, 2], [1, 3], (2, 2), [0, 1, 1], {0: 1}, [0, 1] * 200 + [0]]
WRONG_ROUNDS = ODD + NUMBERS + STRINGS + [
    [], (), ["0"], [[0]], [[[]]], ((0, 1),), [4], [-1], [HUGE], [True, True], [False, True], [0, True], [1, False],
    [0], (2,), [0, 1, 2], [0, 2], [1, 3], [0, 0], [0, 1, 1, 0], {0: 1}, [0, 1] * 200 + [0]]
WRONG_WEB_PLACES = ODD + STRINGS + LISTS + [0, -1, 61, HUGE, -HUGE]
WRONG_TIES = ODD + NUMBERS + STRINGS + [
    [0], ["a"], [[[]]], [(0, 1, 2)], [(0,)], [()], [[0, 1]], [(0, 3)], [(3, 0)], [(-1, 0)], [(0, -1)], [(True, 0)],
    [(0, True)], [(0, False)], [(None, 0)], [("0", 1)], [(0, HUGE)], [(0, 1), None], (0, 1), [(0, 1)] * 81, {(0, 1): 1}]


class Webs(unittest.TestCase):
    def test_ties(self):
        for web in SMALL + FEW:
            ties = web.ties()
            self.assertEqual(web.many, len(ties))
            for place in range(web.places):
                self.assertEqual(web.ties_from(place), [at for at, ends in enumerate(ties) if ends[0] == place])
                self.assertEqual(web.ties_to(place), [at for at, ends in enumerate(ties) if ends[1] == place])

    def test_edges(self):
        bare = Web(1, [])
        self.assertEqual([bare.places, bare.many, bare.ties(), bare.ties_from(0), bare.ties_to(0)], [1, 0, [], [], []])
        most = Web(60, [(59, 59)] * 80)
        self.assertEqual([most.places, most.many, most.ties_from(59), most.ties_to(0)], [60, 80, list(range(80)), []])
        self.assertEqual(Web(60, []).ties_to(59), [])
        alike = Web(2, ((0, 1), (0, 1), (1, 1)))
        self.assertEqual([alike.ties(), alike.ties_to(1), alike.ties_from(1)],
                         [[(0, 1), (0, 1), (1, 1)], [0, 1, 2], [2]])

    def test_equal(self):
        self.assertIs(TWO == Web(3, tuple(TWO.ties())), True)
        self.assertIs(TWO != Web(3, TWO.ties()), False)
        for other in (Web(4, TWO.ties()), Web(3, TWO.ties()[::-1]), Web(3, TWO.ties()[1:]), Web(3, [])):
            self.assertIs(TWO == other, False)
            self.assertIs(TWO != other, True)
        for other in ODD + NUMBERS + STRINGS + LISTS + [(3, TWO.ties())]:
            self.assertIs(TWO == other, False)
            self.assertIs(other == TWO, False)

    def test_copied_and_new(self):
        ties = [(0, 1), (1, 0)]
        web = Web(2, ties)
        ties.append((0, 0))
        web.ties().append((0, 0))
        web.ties_from(0).append(7)
        web.ties_to(0).append(7)
        self.assertEqual([web.ties(), web.many, web.ties_from(0), web.ties_to(0)], [[(0, 1), (1, 0)], 2, [0], [1]])

    def test_properties_are_only_read(self):
        with self.assertRaises(AttributeError):
            TWO.places = 4
        with self.assertRaises(AttributeError):
            TWO.many = 5

    def test_parameters(self):
        check_parameters(self, Web, [
            ("places", 3, WRONG_WEB_PLACES, InvalidPlaces), ("ties", [(0, 1)], WRONG_TIES, InvalidTies)])
        for call in (TWO.ties_from, TWO.ties_to):
            check_parameters(self, call, [("place", 2, WRONG_PLACES, InvalidPlace)])


class Walks(unittest.TestCase):
    def test_all_lists(self):
        for web in SMALL[:200] + FEW:
            told, closed = walks(web, 3), rounds(web, 3)
            for many in range(4):
                for numbers in product(range(web.many + 1), repeat=many):
                    for value in (numbers, list(numbers)):
                        self.assertIs(is_walk(web, value), list(value) in told)
                        self.assertIs(is_round(web, value), list(value) in closed)

    def test_any_value(self):
        for value in WRONG_WALKS:
            self.assertIs(is_walk(TWO, value), False)
        for value in WRONG_ROUNDS:
            self.assertIs(is_round(TWO, value), False)
        self.assertEqual([is_walk(Web(1, []), value) for value in ([], [0], None)], [False] * 3)

    def test_longest(self):
        self.assertEqual([is_walk(LOOP, [0] * 400), is_walk(LOOP, [0] * 401)], [True, False])
        self.assertEqual([is_round(LOOP, [0] * 400), is_round(LOOP, [0] * 401)], [True, True])
        self.assertEqual([is_round(LOOP, [0] * 200000), is_round(LOOP, [0] * 200001)], [True, False])

    def test_leads(self):
        for web in FEW:
            ties = web.ties()
            for walk in walks(web, 4):
                self.assertEqual(leads(web, walk), (ties[walk[0]][0], ties[walk[-1]][1]))
        self.assertEqual(leads(LOOP, (0,) * 400), (0, 0))

    def test_covers(self):
        for web in FEW[:2]:
            for tour in rounds(web, 6):
                self.assertIs(covers(web, tour), all(tie in tour for tie in range(web.many)))
        self.assertEqual([covers(TWO, (2, 3, 0, 1)), covers(TWO, [1, 0]), covers(LOOP, [0])], [True, False, True])

    def test_parameters(self):
        web, wrong = ("web", TWO, WRONG_WEBS, InvalidWeb), ("walk", [0, 1], WRONG_WALKS, InvalidWalk)
        tour = ("tour", [0, 1], WRONG_ROUNDS, InvalidRound)
        check_parameters(self, leads, [web, wrong])
        check_parameters(self, covers, [web, tour])
        check_parameters(self, walk_in_round, [web, tour, wrong])
        for call in (is_walk, is_round):
            check_parameters(self, call, [web, ("value", None, [], None)])
        check_parameters(self, back_web, [web])


class WalksInRounds(unittest.TestCase):
    def test_in_all_turnings(self):
        for web in FEW[:3] + SMALL[:100]:
            told = walks(web, 5)
            for tour in rounds(web, 4):
                endless = tour * 7
                stretches = [endless[at:at + size] for at in range(len(tour)) for size in range(1, 6)]
                for walk in told:
                    self.assertIs(walk_in_round(web, tour, walk), walk in stretches)

    def test_hangs_on_no_turning(self):
        web = FEW[1]
        for tour in rounds(web, 4):
            for by in range(len(tour)):
                for walk in walks(web, 4):
                    self.assertEqual(walk_in_round(web, tour[by:] + tour[:by], walk), walk_in_round(web, tour, walk))

    def test_longer_than_the_round(self):
        self.assertIs(walk_in_round(LOOP, [0], [0] * 400), True)
        self.assertIs(walk_in_round(TWO, [0, 1], [1, 0] * 200), True)
        self.assertIs(walk_in_round(TWO, [0, 1], [1, 0] * 199 + [1, 2]), False)
        self.assertIs(walk_in_round(TWO, (0, 1, 2, 3), (3, 0, 1, 2, 3, 0)), True)
        self.assertIs(walk_in_round(TWO, [0, 1, 2, 3], [3, 0, 1, 0, 1, 2]), False)

    def test_long_rounds(self):
        tour = [0, 1] * 5000 + [2, 3]
        self.assertIs(walk_in_round(TWO, tour, [0, 1] * 199 + [2, 3]), True)
        self.assertIs(walk_in_round(TWO, tour, [3, 0, 1] + [0, 1] * 100), True)
        self.assertIs(walk_in_round(TWO, tour, [3, 2]), False)
        self.assertIs(walk_in_round(TWO, [2, 3] * 100000, [0, 1]), False)


class TurnedAbout(unittest.TestCase):
    def test_turned_about(self):
        for web in SMALL + FEW:
            back = back_web(web)
            self.assertEqual([back.places, back.ties()], [web.places, [(far, near) for near, far in web.ties()]])
            self.assertEqual(back_web(back), web)
