"""Points [6b1] to [6b5]: rounds by counts that keep mates."""

import unittest
from itertools import product
from unittest import mock

from suretexts.counted import all_rounds
from suretexts.errors import (
    InvalidCounts, InvalidMate, InvalidMates, InvalidRound, InvalidWalk, InvalidWeb, NoRounds, TooMany)
from suretexts.mates import broken_mates, fewest_broken, keeps_mate, mated_rounds, needless_mates, sure_mated
from suretexts.webs import Web
from tests.counts import COUNTED, WRONG_COUNT_LISTS, plain_rounds, turnings
from tests.support import HUGE, LISTS, NUMBERS, ODD, STRINGS, check_fails, check_parameters
from tests.test_webs import WRONG_ROUNDS, WRONG_WALKS, WRONG_WEBS
from tests.webs import CLOSE, FEW, OPEN, SMALL, plainly_close, reads, rounds, walks

TWO = Web(3, [(0, 1), (1, 0), (0, 2), (2, 0)])
EIGHT = Web(2, [(0, 1), (1, 0), (0, 0)])
EYES = Web(1, [(0, 0), (0, 0)])
LOOP = Web(1, [(0, 0)])
OF_LISTS = [mated_rounds, fewest_broken, needless_mates]

WRONG_ENDS = [None, True, False, -1, 4, 80, HUGE, "0", [0], (0,)]
WRONG_NUMBERS = [None, True, -1, 0, 61, HUGE, "1", [1], (1,)]
WRONG_MATES = ODD + NUMBERS + STRINGS + LISTS + [
    (0, 1), (0, 1, 1), (0, 1, 1, 1, 1), [0, 1, 1, 1], (0, 1, 2, 1), (0, 1, 60, 59), ((0, 1, 1, 1),), "0111"]
WRONG_MATES += [(end, 1, 1, 1) for end in WRONG_ENDS] + [(0, end, 1, 1) for end in WRONG_ENDS]
WRONG_MATES += [(0, 1, number, 60) for number in WRONG_NUMBERS] + [(0, 1, 1, number) for number in WRONG_NUMBERS]
GOOD = (0, 1, 1, 1)
WRONG_LOTS_OF_MATES = ODD + NUMBERS + STRINGS + [[0], ["a"], [[[]]], [[]], ((1, 2),), GOOD, list(GOOD), {GOOD: 1}]
WRONG_LOTS_OF_MATES += [[GOOD, wrong] for wrong in WRONG_MATES] + [(wrong, GOOD) for wrong in WRONG_MATES[::5]]
WRONG_LOTS_OF_MATES += [[GOOD] * 21, (GOOD,) * 21]


def some_mates(web):
    """Mates of all pairs of ties, near by and far apart, with one number and with several."""
    ties = range(web.many)
    apart = [(1, 1), (2, 2), (1, 2), (3, 5), (4, 4), (7, 7), (60, 60), (1, 60)]
    return [(near, far, least, most) for near in ties for far in ties for least, most in apart]


def is_kept(tour, mate):
    """Whether a place has the one tie, and the other one so far behind it, along a long line."""
    near, far, least, most = mate
    line = list(tour) * (most // len(tour) + 2)
    return any(tour[at] == near and line[at + apart] == far
               for at in range(len(tour)) for apart in range(least, most + 1))


def are_broken(tour, mates):
    return [at for at, mate in enumerate(mates) if not is_kept(tour, mate)]


def some_lots(web):
    """Lists of mates: none, one, alike ones, many."""
    told = some_mates(web)
    lots = [[], told[-8:-7] * 3, told[:20], told[1::7][:20], told[-3:] + told[::8][:4], told[::5][:6]]
    return lots + [[mate] for mate in told[::3]]


CASES = [(web, counts, plain_rounds(web, counts)) for web, counts in COUNTED[::9]]
CASES += [(EYES, [2, 2], plain_rounds(EYES, [2, 2])), (EYES, [3, 3], plain_rounds(EYES, [3, 3]))]
WITH_ROUNDS = [row for row in CASES if row[2]]


class Keeps(unittest.TestCase):
    def test_all_places_and_numbers(self):
        for web in CLOSE[::31] + FEW[:2] + [web for web in SMALL if not plainly_close(web)][::99]:
            for tour in rounds(web, 4)[::3]:
                for mate in some_mates(web):
                    wanted = is_kept(tour, mate)
                    self.assertIs(keeps_mate(web, tour, mate), wanted)
                    self.assertIs(keeps_mate(web, tuple(tour), mate), wanted)

    def test_each_number(self):
        tour = [0, 1, 0, 1, 2]
        for near, far in product(range(3), repeat=2):
            told = [keeps_mate(EIGHT, tour, (near, far, apart, apart)) for apart in range(1, 61)]
            self.assertEqual(told, [any(tour[at] == near and tour[(at + apart) % 5] == far for at in range(5))
                                    for apart in range(1, 61)])

    def test_near_and_far_alike(self):
        self.assertEqual([keeps_mate(EYES, [0, 1, 1], (0, 0, apart, apart)) for apart in (1, 2, 3, 4, 6, 60)],
                         [False, False, True, False, True, True])
        self.assertEqual([keeps_mate(LOOP, [0], (0, 0, 1, 1)), keeps_mate(LOOP, [0], (0, 0, 60, 60))], [True, True])

    def test_greater_than_the_round(self):
        self.assertEqual([keeps_mate(EYES, [0, 1], (0, 1, apart, apart)) for apart in (1, 2, 59, 60)],
                         [True, False, True, False])
        self.assertIs(keeps_mate(EYES, [0] * 100 + [1], (0, 1, 60, 60)), True)
        self.assertIs(keeps_mate(EYES, [1] + [0] * 61, (1, 1, 1, 60)), False)

    def test_long_rounds(self):
        tour = [0] * 199999 + [1]
        self.assertEqual(broken_mates(EYES, tour, [(1, 1, 1, 60), (0, 1, 60, 60), (1, 0, 60, 60), (0, 0, 1, 1)] * 5),
                         [0, 4, 8, 12, 16])

    def test_a_tie_that_is_not_there(self):
        self.assertEqual([keeps_mate(EYES, [0], mate) for mate in ((0, 1, 1, 60), (1, 0, 1, 60), (1, 1, 1, 60))],
                         [False, False, False])

    def test_turned(self):
        for mate in some_mates(EIGHT):
            told = {keeps_mate(EIGHT, tour, mate) for tour in turnings([0, 1, 0, 1, 2])}
            self.assertEqual(len(told), 1)

    def test_broken(self):
        for web, _, told in WITH_ROUNDS[::5]:
            for mates in some_lots(web):
                for tour in told[:3]:
                    wanted = are_broken(tour, mates)
                    self.assertEqual(broken_mates(web, tour, mates), wanted)
                    self.assertEqual(broken_mates(web, tuple(tour), tuple(mates)), wanted)
        self.assertEqual([broken_mates(EYES, [0], [(1, 1, 1, 1)] * 20), broken_mates(EYES, [0], [])],
                         [list(range(20)), []])


class Mated(unittest.TestCase):
    def test_all_rounds_that_keep_all(self):
        for web, counts, told in WITH_ROUNDS:
            for mates in some_lots(web)[::2]:
                wanted = [tour for tour in told if not are_broken(tour, mates)]
                self.assertEqual(mated_rounds(web, counts, mates), wanted)
                self.assertEqual(mated_rounds(web, tuple(counts), tuple(mates)), wanted)

    def test_sure(self):
        for web, counts, told in WITH_ROUNDS[::2]:
            for mates in some_lots(web)[::3]:
                kept = [tour for tour in told if not are_broken(tour, mates)]
                for walk in walks(web, 3)[::2] + [told[0] * 2]:
                    if kept:
                        wanted = all(reads(tour, walk) for tour in kept)
                        self.assertIs(sure_mated(web, counts, mates, walk), wanted)
                        self.assertIs(sure_mated(web, tuple(counts), tuple(mates), tuple(walk)), wanted)
                    else:
                        check_fails(self, NoRounds, {}, sure_mated, web, counts, mates, walk)

    def test_fewest_broken(self):
        for web, counts, told in WITH_ROUNDS:
            for mates in some_lots(web)[::2]:
                broken = [len(are_broken(tour, mates)) for tour in told]
                wanted = (min(broken), told[broken.index(min(broken))])
                self.assertEqual(fewest_broken(web, counts, mates), wanted)
                self.assertEqual(fewest_broken(web, tuple(counts), tuple(mates)), wanted)

    def test_needless(self):
        for web, counts, told in CASES:
            for mates in some_lots(web)[::2]:
                kept = [tour for tour in told if not are_broken(tour, mates)]
                wanted = [at for at in range(len(mates)) if kept == [
                    tour for tour in told if not are_broken(tour, mates[:at] + mates[at + 1:])]]
                self.assertEqual(needless_mates(web, counts, mates), wanted)
                self.assertEqual(needless_mates(web, tuple(counts), tuple(mates)), wanted)

    def test_needless_one_by_one_but_not_together(self):
        mate = (0, 0, 1, 1)
        self.assertEqual([needless_mates(EYES, [2, 2], [mate]), needless_mates(EYES, [2, 2], [mate, mate])],
                         [[], [0, 1]])
        # Two of a kind side by side are so of either tie.
        both = [(0, 0, 1, 1), (1, 1, 1, 1)]
        self.assertEqual([needless_mates(EYES, [2, 2], both), mated_rounds(EYES, [2, 2], both)],
                         [[0, 1], [[0, 0, 1, 1]]])
        self.assertEqual(mated_rounds(EYES, [2, 2], []), [[0, 0, 1, 1], [0, 1, 0, 1]])

    def test_alike_mates(self):
        mates = [(0, 0, 1, 1)] * 20
        self.assertEqual([mated_rounds(EYES, [2, 2], mates), needless_mates(EYES, [2, 2], mates)],
                         [[[0, 0, 1, 1]], list(range(20))])
        self.assertEqual(fewest_broken(EYES, [1, 2], mates), (20, [0, 1, 1]))

    def test_no_mated_round(self):
        mates = [(0, 0, 1, 1), (0, 1, 1, 1)]
        self.assertEqual([mated_rounds(EYES, [1, 2], mates), needless_mates(EYES, [1, 2], mates)], [[], [1]])
        check_fails(self, NoRounds, {}, sure_mated, EYES, [1, 2], mates, [0])
        check_fails(self, NoRounds, {}, sure_mated, web=EYES, counts=[1, 2], mates=mates, walk=[0])
        self.assertEqual(fewest_broken(EYES, [1, 2], mates), (1, [0, 1, 1]))

    def test_none_counted(self):
        webs = [(EIGHT, [2, 1, 1]), (Web(2, [(0, 0), (1, 1)]), [2, 2])] + [(web, [1] * web.many) for web, _ in OPEN]
        for web, counts in webs:
            mates = [(0, 0, 1, 1)] * 2
            self.assertEqual([mated_rounds(web, counts, mates), mated_rounds(web, counts, []),
                              needless_mates(web, counts, mates), needless_mates(web, counts, [])],
                              [[], [], [0, 1], []])
            for told in ([], mates):
                check_fails(self, NoRounds, {}, fewest_broken, web, counts, told)
                check_fails(self, NoRounds, {}, sure_mated, web, counts, told, [0])

    def test_more_than_a_thousand(self):
        for mates in ([], [(0, 0, 1, 1)], [(0, 0, 60, 60)] * 20):
            for web, counts in ((EYES, [12, 6]), (Web(1, [(0, 0)] * 60), [1] * 60)):
                for call in OF_LISTS:
                    check_fails(self, TooMany, {"what": "rounds", "limit": 1000}, call, web, counts, mates)
                for walk in ([0], [0, 1]):
                    check_fails(self, TooMany, {"what": "rounds", "limit": 1000}, sure_mated, web, counts, mates, walk)
        with mock.patch("suretexts.counted.MOST_ROUNDS", 116):
            self.assertEqual(mated_rounds(EYES, [12, 4], []), all_rounds(EYES, [12, 4]))
        with mock.patch("suretexts.counted.MOST_ROUNDS", 115):
            check_fails(self, TooMany, {"what": "rounds", "limit": 115}, mated_rounds, EYES, [12, 4], [])

    def test_many_rounds_and_mates(self):
        mates = [(1, 1, 2, 2)] + [(1, 0, apart, apart) for apart in range(1, 12)] + [(0, 0, 1, 60)] * 8
        told = plain = all_rounds(EYES, [12, 4])
        self.assertEqual(mated_rounds(EYES, [12, 4], mates), [tour for tour in plain if not are_broken(tour, mates)])
        self.assertEqual(fewest_broken(EYES, [12, 4], mates[::-1])[0],
                         min(len(are_broken(tour, mates)) for tour in told))

    def test_new_lists(self):
        mates = [(0, 0, 1, 1)]
        mated_rounds(EYES, [2, 2], mates)[0].append(7)
        fewest_broken(EYES, [2, 2], mates)[1].append(7)
        needless_mates(EYES, [2, 2], mates).append(7)
        broken_mates(EYES, [0, 1], mates).append(7)
        self.assertEqual([mated_rounds(EYES, [2, 2], mates), fewest_broken(EYES, [2, 2], mates), mates],
                         [[[0, 0, 1, 1]], (0, [0, 0, 1, 1]), [(0, 0, 1, 1)]])


class Parameters(unittest.TestCase):
    def test_mate(self):
        rows = [("web", TWO, WRONG_WEBS, InvalidWeb), ("tour", [0, 1], WRONG_ROUNDS, InvalidRound)]
        for good in ((0, 1, 1, 1), (3, 3, 1, 60), (0, 0, 60, 60)):
            check_parameters(self, keeps_mate, rows + [("mate", good, WRONG_MATES, InvalidMate)])
        check_parameters(self, broken_mates, rows + [("mates", [GOOD], WRONG_LOTS_OF_MATES, InvalidMates)])

    def test_mates(self):
        rows = [("web", TWO, WRONG_WEBS, InvalidWeb), ("counts", [1, 1, 2, 2], WRONG_COUNT_LISTS, InvalidCounts),
                ("mates", [GOOD, (3, 3, 1, 60), GOOD], WRONG_LOTS_OF_MATES, InvalidMates)]
        for call in OF_LISTS:
            check_parameters(self, call, rows)
        check_parameters(self, sure_mated, rows + [("walk", [0, 1], WRONG_WALKS, InvalidWalk)])

    def test_twenty(self):
        for many in (0, 20):
            self.assertEqual(broken_mates(TWO, [0, 1], [GOOD] * many), [])
            self.assertEqual(mated_rounds(TWO, [1, 1, 1, 1], (GOOD,) * many), [[0, 1, 2, 3]])

    def test_ahead_of_the_rounds(self):
        check_fails(self, InvalidMates, {"value": [GOOD] * 21}, mated_rounds, EYES, [12, 6], [GOOD] * 21)
        check_fails(self, InvalidWalk, {"value": [2]}, sure_mated, EYES, [12, 6], [GOOD], [2])
