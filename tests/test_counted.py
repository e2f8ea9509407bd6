"""Points [8], [5b1], [5b2] and [5b6]: rounds by counts."""

import unittest
from unittest import mock

import suretexts.counted
from suretexts.counted import all_rounds, counted_round, is_counted, is_counted_round, normal_round
from suretexts.errors import InvalidCounts, InvalidRound, InvalidWeb, NotCounted, TooMany
from suretexts.webs import Web
from tests.counts import COUNTED, WRONG_COUNT_LISTS, plain_rounds, plain_ways, some_counts, turnings
from tests.support import LISTS, NUMBERS, ODD, STRINGS, changed, check_fails, check_parameters
from tests.test_webs import WRONG_ROUNDS, WRONG_WEBS
from tests.webs import CLOSE, FEW, OPEN, SMALL, goes_round, plainly_close, rounds

TWO = Web(3, [(0, 1), (1, 0), (0, 2), (2, 0)])
EIGHT = Web(2, [(0, 1), (1, 0), (0, 0)])
EYES = Web(1, [(0, 0), (0, 0)])
ALL = [is_counted, counted_round, all_rounds]


def often(web, tour):
    return [tour.count(tie) for tie in range(web.many)]


class Counted(unittest.TestCase):
    def test_exactly_if_there_is_one(self):
        for web, counts in COUNTED:
            told = plain_ways(web, counts)
            self.assertIs(is_counted(web, counts), told != [])
            self.assertIs(is_counted(web, tuple(counts)), told != [])

    def test_one_round(self):
        for web, counts in COUNTED:
            if is_counted(web, counts):
                for told in (counted_round(web, counts), counted_round(web, tuple(counts))):
                    self.assertTrue(goes_round(web, told))
                    self.assertEqual(often(web, told), counts)
            else:
                check_fails(self, NotCounted, {}, counted_round, web, counts)
                check_fails(self, NotCounted, {}, counted_round, web=web, counts=counts)

    def test_most(self):
        for web, counts in ((Web(1, [(0, 0)] * 5), [12] * 5), (EYES, [12, 1]), (Web(1, [(0, 0)] * 60), [1] * 60),
                            (Web(60, [(at, (at + 1) % 60) for at in range(60)]), [1] * 60)):
            self.assertIs(is_counted(web, counts), True)
            self.assertEqual(often(web, counted_round(web, counts)), counts)

    def test_bounds_of_counts(self):
        five, six, many = Web(1, [(0, 0)] * 5), Web(1, [(0, 0)] * 6), Web(1, [(0, 0)] * 61)
        self.assertEqual([is_counted(EYES, [1, 12]), is_counted(five, [12] * 5)], [True, True])
        for web, counts in ((EYES, [0, 1]), (EYES, [1, 13]), (six, [12] * 5 + [1]), (many, [1] * 61), (EYES, [1]),
                            (Web(1, [(0, 0)] * 80), [1] * 80)):
            for call in ALL:
                check_fails(self, InvalidCounts, {"value": counts}, call, web, counts)
            check_fails(self, InvalidCounts, {"value": tuple(counts)}, is_counted_round, web, tuple(counts), None)

    def test_not_balanced(self):
        for counts in ([2, 1, 1], [1, 2, 1]):
            self.assertEqual([is_counted(EIGHT, counts), all_rounds(EIGHT, counts)], [False, []])
            check_fails(self, NotCounted, {}, counted_round, EIGHT, counts)

    def test_not_close(self):
        webs = [web for web, _ in OPEN] + [web for web in SMALL if not plainly_close(web) and web.many][::9]
        for web in webs + [Web(2, [(0, 0), (1, 1)]), Web(2, [(0, 0)])]:
            counts = [1] * web.many
            self.assertEqual([is_counted(web, counts), all_rounds(web, counts)], [False, []])
            check_fails(self, NotCounted, {}, counted_round, web, counts)
            for tour in rounds(web, 3):
                self.assertIs(is_counted_round(web, counts, tour), False)
        self.assertEqual([is_counted(Web(1, []), []), all_rounds(Web(1, []), [])], [False, []])
        check_fails(self, NotCounted, {}, counted_round, Web(1, []), [])


class CountedRounds(unittest.TestCase):
    def test_all_rounds_of_few_ties(self):
        for web in CLOSE[::31] + FEW[:2]:
            for counts in some_counts(web, 5):
                for tour in rounds(web, 5):
                    told = often(web, tour) == counts
                    self.assertIs(is_counted_round(web, counts, tour), told)
                    self.assertIs(is_counted_round(web, tuple(counts), tuple(tour)), told)

    def test_normal_or_not(self):
        for tour in turnings([0, 1, 0, 1, 2]):
            self.assertIs(is_counted_round(EIGHT, [2, 2, 1], tour), goes_round(EIGHT, tour))

    def test_any_value(self):
        tour = [0, 1, 2]
        self.assertIs(is_counted_round(EIGHT, [1, 1, 1], tour), True)
        values = ODD + NUMBERS + STRINGS + LISTS + changed(tour, ODD + NUMBERS + LISTS)
        for value in values + [[], [0, 1], [0, 1, 2, 2], [0, 2, 1], [0, 1, 2, 0, 1, 2], [2, 2, 2], [[0, 1, 2]], {0: 1}]:
            if repr(value) == repr(tour):
                continue
            shown = repr(value)
            with self.subTest(value=value):
                self.assertIs(is_counted_round(EIGHT, [1, 1, 1], value), False)
                self.assertIs(is_counted_round(web=EIGHT, counts=[1, 1, 1], value=value), False)
                self.assertEqual(repr(value), shown)


class Normals(unittest.TestCase):
    def test_least_turnings(self):
        for web in CLOSE[::9] + FEW:
            for tour in rounds(web, 5):
                wanted = min(turnings(tour))
                self.assertEqual([normal_round(web, tour), normal_round(web, tuple(tour))], [wanted, wanted])

    def test_any_web(self):
        for web in [web for web in SMALL if not plainly_close(web)][::9]:
            for tour in rounds(web, 4):
                self.assertEqual(normal_round(web, tour), min(turnings(tour)))

    def test_long(self):
        self.assertEqual(normal_round(EYES, [0] * 199 + [1] + [0] * 200), [0] * 399 + [1])
        self.assertEqual(normal_round(EYES, [1, 0] * 100000), [0, 1] * 100000)

    def test_new_lists(self):
        tour = [0, 1, 2]
        normal_round(EIGHT, tour).append(7)
        self.assertEqual(tour, [0, 1, 2])


class AllRounds(unittest.TestCase):
    def test_each_once(self):
        for web, counts in COUNTED:
            wanted = plain_rounds(web, counts)
            self.assertEqual([all_rounds(web, counts), all_rounds(web, tuple(counts))], [wanted, wanted])

    def test_a_round_gone_several_times(self):
        self.assertEqual(all_rounds(EIGHT, [2, 2, 2]), [[0, 1, 0, 1, 2, 2], [0, 1, 2, 0, 1, 2]])
        self.assertEqual(all_rounds(EYES, [2, 2]), [[0, 0, 1, 1], [0, 1, 0, 1]])
        self.assertEqual(all_rounds(Web(1, [(0, 0)]), [12]), [[0] * 12])
        self.assertEqual(all_rounds(Web(2, [(0, 1), (1, 0)]), [9, 9]), [[0, 1] * 9])

    def test_no_way_astray(self):
        # A part of the web that is left too early is not come to again.
        web = Web(3, [(0, 1), (1, 0), (1, 2), (2, 1), (0, 0)])
        self.assertEqual(all_rounds(web, [2, 2, 1, 1, 3]), plain_rounds(web, [2, 2, 1, 1, 3]))
        # Each loop is gone twelve times at once, or is left for ever: who goes astray here has no end of it.
        web = Web(4, [(0, 1), (1, 2), (2, 3), (3, 0)] + [(place, place) for place in range(4)])
        self.assertEqual(all_rounds(web, [1] * 4 + [12] * 4), [
            [0] + [5] * 12 + [1] + [6] * 12 + [2] + [7] * 12 + [3] + [4] * 12])

    def test_long_rounds(self):
        ring = [(at, (at + 1) % 12) for at in range(12)]
        web = Web(12, ring + [(3, 4)])
        told = all_rounds(web, [4, 4, 4, 2, 4, 4, 4, 4, 4, 4, 4, 4, 2])
        self.assertEqual([tour.count(12) for tour in told], [2, 2])
        self.assertEqual([len(tour) for tour in told], [48, 48])

    def test_a_thousand(self):
        # Of two loops, the one twelve times: 116 rounds with the other one four times, 1,038 with it six times.
        told = all_rounds(EYES, [12, 4])
        self.assertEqual([len(told), told == sorted(told)], [116, True])
        self.assertTrue(all(often(EYES, tour) == [12, 4] and tour == min(turnings(tour)) for tour in told))
        check_fails(self, TooMany, {"what": "rounds", "limit": 1000}, all_rounds, EYES, [12, 6])
        check_fails(self, TooMany, {"what": "rounds", "limit": 1000}, all_rounds, Web(1, [(0, 0)] * 60), [1] * 60)
        with mock.patch("suretexts.counted.MOST_ROUNDS", 116):
            self.assertEqual(len(all_rounds(EYES, [12, 4])), 116)
        with mock.patch("suretexts.counted.MOST_ROUNDS", 115):
            check_fails(self, TooMany, {"what": "rounds", "limit": 115}, all_rounds, EYES, [12, 4])
        self.assertEqual(suretexts.counted.MOST_ROUNDS, 1000)

    def test_new_lists(self):
        all_rounds(EIGHT, [2, 2, 2])[0].append(7)
        self.assertEqual(all_rounds(EIGHT, [2, 2, 2])[0], [0, 1, 0, 1, 2, 2])
        self.assertEqual([type(all_rounds(EIGHT, (1, 1, 1))), type(counted_round(EIGHT, (1, 1, 1)))], [list, list])


class Parameters(unittest.TestCase):
    def test_parameters(self):
        rows = [("web", TWO, WRONG_WEBS, InvalidWeb), ("counts", [1, 1, 12, 12], WRONG_COUNT_LISTS, InvalidCounts)]
        for call in (is_counted, counted_round):
            check_parameters(self, call, rows)
        check_parameters(self, all_rounds, [rows[0], ("counts", [2, 2, 1, 1], WRONG_COUNT_LISTS, InvalidCounts)])
        check_parameters(self, is_counted_round, rows + [("value", [0, 1, 2, 3], [], None)])
        check_parameters(self, normal_round, [rows[0], ("tour", [0, 1], WRONG_ROUNDS, InvalidRound)])
