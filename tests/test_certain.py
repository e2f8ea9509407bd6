"""Points [6a1] to [6a4]: what counts make certain."""

import unittest
from unittest import mock

import suretexts.counted
from suretexts.certain import (
    always_next, lacking_counted, most_next, only_round, sure_counted, times_counted, times_in)
from suretexts.counted import how_many, is_counted, is_counted_round
from suretexts.errors import InvalidCounts, InvalidRound, InvalidTie, InvalidWalk, InvalidWeb, NotCounted, TooMany
from suretexts.webs import Web
from tests.counts import COUNTED, WRONG_COUNT_LISTS, plain_rounds
from tests.support import HUGE, WRONG_COUNTS, check_fails, check_parameters
from tests.test_webs import WRONG_ROUNDS, WRONG_WALKS, WRONG_WEBS
from tests.webs import CLOSE, FEW, OPEN, SMALL, plainly_close, rounds, walks

TWO = Web(3, [(0, 1), (1, 0), (0, 2), (2, 0)])
EIGHT = Web(2, [(0, 1), (1, 0), (0, 0)])
EYES = Web(1, [(0, 0), (0, 0)])
LOOP = Web(1, [(0, 0)])
ROUNDS = [(web, counts, plain_rounds(web, counts)) for web, counts in COUNTED[::4]]
WITH_ROUNDS = [row for row in ROUNDS if row[2]]
OF_WALKS = [times_counted, sure_counted, lacking_counted]
WITHOUT_LISTS = [always_next, only_round]
TIES = WRONG_COUNTS + [4, 80, HUGE]


def plain_times(tour, walk):
    """At how many positions the walk is read in the round, tie by tie."""
    size = len(tour)
    return sum(all(tour[(at + k) % size] == tie for k, tie in enumerate(walk)) for at in range(size))


def next_times(tour, tie, later):
    return sum(tour[at - 1] == tie and tour[at] == later for at in range(len(tour)))


def followers(web, tie):
    return web.ties_from(web.ties()[tie][1])


class TimesIn(unittest.TestCase):
    def test_all_positions(self):
        for web in CLOSE[::7] + FEW + [web for web in SMALL if not plainly_close(web)][::9]:
            told = walks(web, 5)[::3]
            for tour in rounds(web, 4)[::2]:
                for walk in told:
                    wanted = plain_times(tour, walk)
                    self.assertEqual(times_in(web, tour, walk), wanted)
                    self.assertEqual(times_in(web, tuple(tour), tuple(walk)), wanted)

    def test_longer_than_the_round(self):
        self.assertEqual([times_in(EIGHT, [0, 1, 2], [2, 0, 1, 2, 0]), times_in(EIGHT, [2], [2] * 400)], [1, 1])
        self.assertEqual([times_in(EIGHT, [0, 1, 2], [0, 1, 2, 2]), times_in(LOOP, [0, 0, 0], [0] * 7)], [0, 3])
        self.assertEqual(times_in(EIGHT, [0, 1] * 3, [0, 1] * 5), 3)

    def test_one_tie(self):
        self.assertEqual([times_in(EIGHT, [0, 1, 0, 1, 2], [tie]) for tie in range(3)], [2, 2, 1])
        self.assertEqual(times_in(EYES, [0, 1] * 100000, [1]), 100000)

    def test_of_whatever_web(self):
        for web, walk in OPEN:
            for tour in rounds(web, 2):
                self.assertEqual(times_in(web, tour, walk), plain_times(tour, walk))


class Walks(unittest.TestCase):
    def test_all_counted_rounds(self):
        for web, counts, told in WITH_ROUNDS:
            longer = [walk for walk in walks(web, 4)[::2]] + [told[0] * 2, told[-1][1:] + told[-1][:1]]
            for walk in longer:
                times = [plain_times(tour, walk) for tour in told]
                lacking = [tour for tour in told if plain_times(tour, walk) == 0]
                for values in ((web, counts, walk), (web, tuple(counts), tuple(walk))):
                    self.assertEqual(times_counted(*values), (min(times), max(times)))
                    self.assertIs(sure_counted(*values), min(times) > 0)
                    self.assertEqual(lacking_counted(*values), lacking[0] if lacking else None)

    def test_one_tie(self):
        # Told without the rounds, of which there are far too many here.
        many = Web(1, [(0, 0)] * 60)
        for web, counts in ((EYES, [12, 6]), (many, [1] * 60), (Web(1, [(0, 0)] * 5), [12, 11, 10, 9, 8])):
            for tie, count in enumerate(counts):
                self.assertEqual(times_counted(web, counts, [tie]), (count, count))
                self.assertEqual(times_counted(web, counts, (tie,)), (count, count))
                self.assertIs(sure_counted(web, counts, [tie]), True)
                self.assertIsNone(lacking_counted(web, counts, [tie]))

    def test_longer_than_the_rounds(self):
        self.assertEqual(times_counted(LOOP, [3], [0] * 400), (3, 3))
        self.assertEqual(times_counted(EIGHT, [1, 1, 1], [0, 1, 2] * 133), (1, 1))
        self.assertEqual(times_counted(EIGHT, [2, 2, 2], [0, 1, 2, 0, 1, 2, 0]), (0, 2))
        self.assertEqual(lacking_counted(EIGHT, [2, 2, 2], [0, 1, 2, 0, 1, 2, 0]), [0, 1, 0, 1, 2, 2])

    def test_more_than_a_thousand(self):
        for call in OF_WALKS:
            for web, counts in ((EYES, [12, 6]), (Web(1, [(0, 0)] * 60), [1] * 60)):
                check_fails(self, TooMany, {"what": "rounds", "limit": 1000}, call, web, counts, [0, 0])
            with mock.patch("suretexts.counted.MOST_ROUNDS", 116):
                call(EYES, [12, 4], [0, 1])
            with mock.patch("suretexts.counted.MOST_ROUNDS", 115):
                check_fails(self, TooMany, {"what": "rounds", "limit": 115}, call, EYES, [12, 4], [0, 1])
        self.assertEqual(suretexts.counted.MOST_ROUNDS, 1000)
        # Four of the one tie can't part twelve of the other one so that three in a row are nowhere.
        self.assertEqual(times_counted(EYES, [12, 4], [0, 0, 0]), (4, 10))
        self.assertIs(sure_counted(EYES, [12, 4], [0, 0, 0]), True)

    def test_new_lists(self):
        lacking_counted(EIGHT, [2, 2, 2], [2, 2]).append(7)
        self.assertEqual(lacking_counted(EIGHT, [2, 2, 2], [2, 2]), [0, 1, 2, 0, 1, 2])


class Followed(unittest.TestCase):
    def test_most_of_all_rounds(self):
        for web, counts, told in WITH_ROUNDS:
            for tie in range(web.many):
                for later in followers(web, tie):
                    wanted = max(next_times(tour, tie, later) for tour in told)
                    self.assertEqual(most_next(web, counts, tie, later), wanted)
                    self.assertEqual(most_next(web, tuple(counts), tie, later), wanted)

    def test_always(self):
        for web, counts, told in WITH_ROUNDS:
            wanted = []
            for tie in range(web.many):
                behind = {tour[at] for tour in told for at in range(len(tour)) if tour[at - 1] == tie}
                wanted.append(min(behind) if len(behind) == 1 else None)
            self.assertEqual([always_next(web, counts), always_next(web, tuple(counts))], [wanted, wanted])

    def test_by_itself(self):
        # With another tie in the web it leaves off once; without another one it never does.
        self.assertEqual([most_next(EIGHT, [2, 2, count], 2, 2) for count in (1, 2, 12)], [0, 1, 11])
        self.assertEqual([most_next(LOOP, [count], 0, 0) for count in (1, 2, 12)], [1, 2, 12])
        self.assertEqual([always_next(LOOP, [count]) for count in (1, 12)], [[0], [0]])
        self.assertEqual([always_next(EYES, [1, 1]), always_next(EYES, [2, 1]), always_next(EYES, [2, 2])],
                         [[1, 0], [None, 0], [None, None]])

    def test_ways_out_that_are_wanted(self):
        # Whoever goes back at once, as often as he can, never comes to the rest.
        web = Web(3, [(0, 1), (1, 0), (1, 2), (2, 1)])
        self.assertEqual([most_next(web, [3, 3, 1, 1], 0, 1), most_next(web, [1, 1, 1, 1], 0, 1)], [2, 0])
        self.assertEqual([most_next(web, [3, 3, 2, 2], 0, 2), most_next(web, [3, 3, 2, 2], 1, 0)], [2, 3])
        self.assertEqual(always_next(web, [1, 1, 1, 1]), [2, 0, 3, 1])

    def test_no_lists_of_rounds(self):
        five = Web(1, [(0, 0)] * 5)
        ring = [(at, (at + 1) % 30) for at in range(30)]
        twice = Web(30, ring + ring)
        with mock.patch("suretexts.certain.all_rounds", side_effect=AssertionError):
            self.assertEqual([most_next(five, [12] * 5, 0, 1), most_next(five, [12] * 5, 1, 1)], [12, 11])
            self.assertEqual([always_next(five, [12] * 5), only_round(five, [12] * 5)], [[None] * 5, None])
            self.assertEqual([most_next(twice, [1] * 60, 0, 31), always_next(twice, [1] * 60)], [1, [None] * 60])
            self.assertIsNone(only_round(twice, [1] * 60))
            self.assertEqual(most_next(twice, [1] * 60, 0, 1), 1)


class OnlyRound(unittest.TestCase):
    def test_just_one(self):
        for web, counts, told in WITH_ROUNDS:
            wanted = told[0] if len(told) == 1 else None
            self.assertEqual([only_round(web, counts), only_round(web, tuple(counts))], [wanted, wanted])
            if wanted is not None:
                for walk in walks(web, 3):
                    self.assertIs(sure_counted(web, counts, walk), plain_times(wanted, walk) > 0)

    def test_long(self):
        ring = Web(60, [(at, (at + 1) % 60) for at in range(60)])
        self.assertEqual(only_round(ring, [1] * 60), list(range(60)))
        self.assertEqual(only_round(Web(5, [(at, (at + 1) % 5) for at in range(5)]), [12] * 5), [0, 1, 2, 3, 4] * 12)
        told = only_round(EYES, [12, 1])
        self.assertEqual([told, how_many(EYES, [12, 1]), is_counted_round(EYES, [12, 1], told)],
                         [[0] * 12 + [1], 1, True])

    def test_normal_and_new(self):
        web = Web(2, [(1, 1), (1, 0), (0, 1)])
        only_round(web, [1, 1, 1]).append(7)
        self.assertEqual(only_round(web, [1, 1, 1]), [0, 1, 2])


class NotCountedOnes(unittest.TestCase):
    def check(self, web, counts):
        self.assertFalse(is_counted(web, counts))
        for call in WITHOUT_LISTS:
            check_fails(self, NotCounted, {}, call, web, counts)
            check_fails(self, NotCounted, {}, call, web=web, counts=counts)
        for walk in walks(web, 2):
            for call in OF_WALKS:
                check_fails(self, NotCounted, {}, call, web, counts, walk)
                check_fails(self, NotCounted, {}, call, web=web, counts=counts, walk=walk)
            if len(walk) == 2:
                check_fails(self, NotCounted, {}, most_next, web, counts, walk[0], walk[1])

    def test_not_balanced(self):
        for web, counts, told in ROUNDS[::7]:
            if not told:
                self.check(web, counts)
        self.check(EIGHT, [2, 1, 1])

    def test_not_close(self):
        for web in [web for web, _ in OPEN] + [web for web in SMALL if web.many and not plainly_close(web)][::29]:
            self.check(web, [1] * web.many)
        # Balanced, but two rings apart, or a place without a tie.
        self.check(Web(2, [(0, 0), (1, 1)]), [2, 2])
        self.check(Web(2, [(0, 0)]), [3])

    def test_ahead_of_too_many(self):
        web = Web(2, [(0, 0)] * 58 + [(0, 1), (1, 0)])
        for call in OF_WALKS:
            check_fails(self, TooMany, {"what": "rounds", "limit": 1000}, call, web, [1] * 60, [0, 1])
            check_fails(self, NotCounted, {}, call, Web(2, [(0, 0)] * 59 + [(0, 1)]), [1] * 60, [0, 1])


class Parameters(unittest.TestCase):
    def test_parameters(self):
        rows = [("web", TWO, WRONG_WEBS, InvalidWeb), ("counts", [1, 1, 2, 2], WRONG_COUNT_LISTS, InvalidCounts)]
        for call in OF_WALKS:
            check_parameters(self, call, rows + [("walk", [0, 1], WRONG_WALKS, InvalidWalk)])
        check_parameters(self, times_in, [rows[0], ("tour", [0, 1], WRONG_ROUNDS, InvalidRound),
                                          ("walk", [0, 1], WRONG_WALKS, InvalidWalk)])
        for call in WITHOUT_LISTS:
            check_parameters(self, call, rows)
        # Behind the tie 0 there is only the tie 1; behind the tie 1 there are two.
        check_parameters(self, most_next, rows + [
            ("tie", 0, TIES, InvalidTie), ("later", 1, TIES + [0, 2, 3], InvalidTie)])
        check_parameters(self, most_next, rows + [
            ("tie", 1, TIES, InvalidTie), ("later", 2, TIES + [1, 3], InvalidTie)])

    def test_parameters_ahead_of_not_counted(self):
        for call in OF_WALKS:
            check_fails(self, InvalidWalk, {"value": [2, 1, 1]}, call, EIGHT, [2, 1, 1], [2, 1, 1])
        check_fails(self, InvalidTie, {"value": 1}, most_next, EIGHT, [2, 1, 1], 2, 1)
        check_fails(self, InvalidTie, {"value": 3}, most_next, EIGHT, [2, 1, 1], 3, 1)

    def test_more_than_sixty(self):
        for web, counts in ((Web(1, [(0, 0)] * 61), [1] * 61), (Web(1, [(0, 0)] * 6), [12] * 5 + [1])):
            for call in OF_WALKS:
                check_fails(self, InvalidCounts, {"value": counts}, call, web, counts, [0])
            for call in WITHOUT_LISTS:
                check_fails(self, InvalidCounts, {"value": counts}, call, web, counts)
            check_fails(self, InvalidCounts, {"value": counts}, most_next, web, counts, 0, 0)
