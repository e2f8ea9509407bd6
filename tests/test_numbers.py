"""Points [5b3] to [5b5]: trees, ways, and how many counted rounds there are."""

import unittest
from itertools import product
from math import factorial, gcd, prod

from suretexts.counted import all_rounds
from suretexts.errors import InvalidCounts, InvalidPlace, InvalidWeb
from suretexts.numbers import how_many, trees_to, ways
from suretexts.webs import Web
from tests.counts import COUNTED, WRONG_COUNT_LISTS, plain_rounds, plain_ways
from tests.support import check_fails, check_parameters
from tests.test_webs import WRONG_PLACES, WRONG_WEBS
from tests.webs import CLOSE, FEW, OPEN, SMALL, plainly_close

TWO = Web(3, [(0, 1), (1, 0), (0, 2), (2, 0)])
EIGHT = Web(2, [(0, 1), (1, 0), (0, 0)])
EYES = Web(1, [(0, 0), (0, 0)])


def plain_trees(web, counts, place):
    """The weights of all choices of a tie from each other place by which all come to the place."""
    ties = web.ties()
    others = [other for other in range(web.places) if other != place]
    together = 0
    for chosen in product(*[web.ties_from(other) for other in others]):
        onward = dict(zip(others, [ties[tie][1] for tie in chosen]))
        ends = list(others)
        for _ in range(web.places):
            ends = [onward.get(end, end) for end in ends]
        if all(end == place for end in ends):
            together += prod(counts[tie] for tie in chosen)
    return together


def loops_ways(counts):
    """In how many ways loops at one place are gone along."""
    number = factorial(sum(counts))
    for count in counts:
        number //= factorial(count)
    return number


def necklaces(counts):
    """How many rounds of loops at one place there are: of all turnings, what each leaves as it is."""
    many = sum(counts)
    together = 0
    for turn in range(many):
        # Turned by so many, a round stays if it is the same way so many times.
        times = many // gcd(turn, many)
        if all(count % times == 0 for count in counts):
            together += loops_ways([count // times for count in counts])
    return together // many


class Trees(unittest.TestCase):
    def check(self, web, counts):
        for place in range(web.places):
            wanted = plain_trees(web, counts, place)
            self.assertEqual([trees_to(web, counts, place), trees_to(web, tuple(counts), place)], [wanted, wanted])

    def test_any_webs_and_any_counts(self):
        for web in SMALL[::3] + FEW + [web for web, _ in OPEN]:
            self.check(web, [1] * web.many)
            self.check(web, [1 + (5 * tie + 2) % 12 for tie in range(web.many)])

    def test_many_places(self):
        ends = [(near, far) for near in range(5) for far in range(5) if near != far]
        self.check(Web(5, ends), [1] * 20)
        self.check(Web(5, ends), [1 + tie % 3 for tie in range(20)])
        # Of all trees on so many places Cayley tells how many there are.
        ends = [(near, far) for near in range(8) for far in range(8) if near != far]
        self.assertEqual([trees_to(Web(8, ends), [1] * 56, place) for place in range(8)], [8 ** 6] * 8)

    def test_not_close(self):
        web = Web(3, [(0, 1), (1, 2), (1, 2)])
        self.assertEqual([trees_to(web, [2, 3, 4], place) for place in range(3)], [0, 0, 14])
        self.assertEqual([trees_to(Web(2, [(0, 0)]), [5], place) for place in range(2)], [0, 0])
        self.assertEqual(trees_to(Web(60, [(0, 1)]), [5], 1), 0)

    def test_one_place(self):
        # There is just one tree, which chooses nothing.
        self.assertEqual([trees_to(EYES, [3, 4], 0), trees_to(Web(1, []), [], 0)], [1, 1])

    def test_alike_for_all_places(self):
        for web, counts in COUNTED:
            if plain_ways(web, counts):
                told = [trees_to(web, counts, place) for place in range(web.places)]
                self.assertEqual(told, [told[0]] * web.places)
                self.assertGreater(told[0], 0)

    def test_large(self):
        ring = Web(60, [(at, (at + 1) % 60) for at in range(60)])
        self.assertEqual([trees_to(ring, [1] * 60, place) for place in (0, 59)], [1, 1])
        line = Web(31, [(at, at + 1) for at in range(30)] + [(at + 1, at) for at in range(30)])
        self.assertEqual(trees_to(line, [1] * 60, 15), 1)

    def test_counts_low_and_high(self):
        web = Web(4, [(1, 2), (2, 1), (2, 0), (1, 0), (3, 1), (0, 3)])
        for counts in product((1, 2, 12), repeat=6):
            if sum(counts) <= 60:
                self.check(web, list(counts))


class Ways(unittest.TestCase):
    def test_all_of_them(self):
        for web, counts in COUNTED:
            self.assertEqual([ways(web, counts), ways(web, tuple(counts))], [len(plain_ways(web, counts))] * 2)

    def test_great_counts(self):
        for counts in ([12] * 5, [12, 1], [7, 11, 3], [1] * 60):
            self.assertEqual(ways(Web(1, [(0, 0)] * len(counts)), counts), loops_ways(counts))

    def test_copies_of_ties_are_alike(self):
        self.assertEqual([ways(EIGHT, [2, 2, 2]), ways(EIGHT, [1, 1, 1]), ways(Web(1, [(0, 0)]), [12])], [9, 3, 1])


class HowMany(unittest.TestCase):
    def test_all_of_them(self):
        for web, counts in COUNTED:
            self.assertEqual([how_many(web, counts), how_many(web, tuple(counts))], [len(plain_rounds(web, counts))] * 2)

    def test_rounds_gone_several_times(self):
        self.assertEqual([how_many(EIGHT, [2, 2, 2]), how_many(EYES, [2, 2]), how_many(EYES, [4, 4]), how_many(EYES, [6, 6])],
                         [2, 2, 10, 80])
        self.assertEqual([how_many(Web(1, [(0, 0)]), [many]) for many in range(1, 13)], [1] * 12)
        for counts in ([2, 2], [4, 2], [3, 3], [4, 4]):
            self.assertEqual(necklaces(counts), len(plain_rounds(EYES, counts)))
        # Out and back is gone like one more loop.
        for counts in ([4, 4, 4], [6, 6, 6], [12, 12, 12], [3, 3, 1], [2, 2, 12], [8, 8, 12]):
            self.assertEqual(how_many(EIGHT, counts), necklaces(counts[1:]))

    def test_great_counts(self):
        for counts in ([12] * 5, [12, 6], [10, 5, 5], [12, 12, 6, 3], [9, 6, 3, 12], [7, 11, 5]):
            self.assertEqual(how_many(Web(1, [(0, 0)] * len(counts)), counts), necklaces(counts))
        self.assertEqual(how_many(Web(1, [(0, 0)] * 60), [1] * 60), factorial(59))
        self.assertEqual(how_many(EYES, [12, 6]), 1038)

    def test_as_many_as_are_told(self):
        for counts in ([12, 4], [9, 5], [8, 6], [12, 5]):
            self.assertEqual(how_many(EYES, counts), len(all_rounds(EYES, counts)))


class NoneThere(unittest.TestCase):
    def test_not_balanced(self):
        for counts in ([2, 1, 1], [1, 2, 7]):
            self.assertEqual([ways(EIGHT, counts), how_many(EIGHT, counts)], [0, 0])

    def test_not_close(self):
        for web in [web for web in SMALL if not plainly_close(web)][::5] + [web for web, _ in OPEN]:
            self.assertEqual([ways(web, [1] * web.many), how_many(web, [1] * web.many)], [0, 0])
        # Balanced, but two rings apart, or a place without a tie.
        self.assertEqual([how_many(Web(2, [(0, 0), (1, 1)]), [2, 2]), how_many(Web(2, [(0, 0)]), [3])], [0, 0])


class Parameters(unittest.TestCase):
    def test_parameters(self):
        rows = [("web", TWO, WRONG_WEBS, InvalidWeb), ("counts", [1, 1, 12, 12], WRONG_COUNT_LISTS, InvalidCounts)]
        for call in (ways, how_many):
            check_parameters(self, call, rows)
        check_parameters(self, trees_to, rows + [("place", 2, WRONG_PLACES, InvalidPlace)])

    def test_more_than_sixty(self):
        for web, counts in ((Web(1, [(0, 0)] * 61), [1] * 61), (Web(1, [(0, 0)] * 6), [12] * 5 + [1])):
            for call in (ways, how_many):
                check_fails(self, InvalidCounts, {"value": counts}, call, web, counts)
            check_fails(self, InvalidCounts, {"value": counts}, trees_to, web, counts, 0)
