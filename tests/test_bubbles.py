"""Points [7b1] to [7b4]: bubbles of webs, and the ways through them."""

import unittest
from itertools import combinations, product

from suretexts.bubbles import (
    bubble_end, bubbles, inside, is_bubble, is_shut, plain_bubbles, shortest_way, ways_through)
from suretexts.errors import InvalidPlace, InvalidPrices, InvalidWeb, NotBubble, TooMany
from suretexts.webs import Web
from tests.prices import WRONG_PRICES, some_prices
from tests.support import HUGE, check_fails, check_parameters
from tests.test_webs import WRONG_PLACES, WRONG_WEBS
from tests.webs import FEW, OPEN, SMALL

EYE = Web(5, [(0, 1), (0, 2), (1, 3), (2, 3), (3, 4), (4, 0), (1, 2)])
OF_BUBBLES = [inside, ways_through]


def onward_webs():
    """Webs of four and five places whose ties lead onward, and some of them with a tie back, or with ties alike."""
    told = []
    for places, step in ((4, 1), (5, 5)):
        pairs = [(near, far) for near in range(places) for far in range(near + 1, places)]
        for many in range(places - 1, len(pairs) + 1):
            lots = [list(ties) for ties in combinations(pairs, many)][::step]
            told += [Web(places, ties) for ties in lots] + [Web(places, ties + [(places - 1, 0)]) for ties in lots[::3]]
            told += [Web(places, ties + [(far, near) for near, far in ties[at % many:][:1]])
                     for at, ties in enumerate(lots[1::3])]
            told += [Web(places, ties + ties[at % many:][:1]) for at, ties in enumerate(lots[2::3])]
    return told


WEBS = SMALL[::9] + FEW + onward_webs() + [web for web, _ in OPEN] + [EYE]


def lots_of(web, begin, end):
    """All lots of places that show that the tuple is shut, with their inner ties."""
    others = [place for place in range(web.places) if place not in (begin, end)]
    told = []
    for many in range(len(others) + 1):
        for more in combinations(others, many):
            lot = {begin, end, *more}
            inner = inner_of(web, lot, begin, end)
            if inner is not None and is_woven(lot, [web.ties()[tie] for tie in inner], begin, end):
                told.append((sorted(lot), inner))
    return told if begin != end else []


def inner_of(web, lot, begin, end):
    ties = list(enumerate(web.ties()))
    out = [tie for tie, (near, far) in ties if near in lot - {end}]
    back = [tie for tie, (near, far) in ties if far in lot - {begin}]
    goes = all(web.ties()[tie][1] in lot - {begin} for tie in out)
    comes = all(web.ties()[tie][0] in lot - {end} for tie in back)
    return out if goes and comes else None


def is_woven(lot, ends, begin, end):
    """Whether no tie leads round, and all places are come to from the begin and lead to the end."""
    reached = {place: {far for near, far in ends if near == place} for place in lot}
    for _ in lot:
        for place in lot:
            for far in list(reached[place]):
                reached[place] |= reached[far]
    return all(place not in reached[place] for place in lot) and all(
        place == begin or place in reached[begin] for place in lot) and all(
        place == end or end in reached[place] for place in lot)


def plain_shut(web):
    """All shut tuples, with the inside and the inner ties."""
    told = {}
    for begin, end in product(range(web.places), repeat=2):
        lots = lots_of(web, begin, end)
        assert len(lots) <= 1
        if lots:
            told[begin, end] = lots[0]
    return told


def plainly_bubbles(web, shut):
    return sorted((begin, end) for begin, end in shut if len(web.ties_from(begin)) > 1 and not any(
        place != end and (begin, place) in shut for place in shut[begin, end][0]))


def plain_ways(web, begin, end, inner):
    ties = web.ties()
    told, walks = [], [[tie] for tie in inner if ties[tie][0] == begin]
    while walks:
        told += [walk for walk in walks if ties[walk[-1]][1] == end]
        walks = [walk + [tie] for walk in walks for tie in inner if ties[walk[-1]][1] != end
                 and ties[tie][0] == ties[walk[-1]][1]]
    return sorted(told)


SMALL_SHUT = [(web, plain_shut(web)) for web in WEBS if web.places < 6]


class Shut(unittest.TestCase):
    def test_all_lots_of_places(self):
        for web, shut in SMALL_SHUT:
            for begin, end in product(range(web.places), repeat=2):
                self.assertIs(is_shut(web, begin, end), (begin, end) in shut)
        self.assertGreater(sum(len(shut) for _, shut in SMALL_SHUT), 300)

    def test_begin_and_begin(self):
        for web in (EYE, Web(1, []), Web(1, [(0, 0)]), Web(2, [(0, 1), (1, 0)])):
            for place in range(web.places):
                self.assertEqual([is_shut(web, place, place), is_bubble(web, place, place)], [False, False])

    def test_a_tie_from_the_end_to_the_begin(self):
        for ties in ([(0, 1), (0, 1), (1, 0)], [(0, 1), (0, 1), (1, 0), (1, 0)]):
            self.assertEqual([is_shut(Web(2, ties), 0, 1), bubbles(Web(2, ties))[:1]], [True, [(0, 1)]])
        web = Web(4, [(0, 1), (0, 2), (1, 3), (2, 3), (3, 0)])
        self.assertEqual([bubbles(web), plain_bubbles(web)], [[(0, 3)], [(0, 3)]])

    def test_what_comes_in_and_goes_out(self):
        ways = [(0, 1), (0, 2), (1, 3), (2, 3)]
        self.assertEqual(bubbles(Web(5, ways)), [(0, 3)])
        for more in ([(1, 4)], [(4, 2)], [(1, 0)], [(3, 1)], [(1, 1)], [(0, 0)], [(3, 3)], [(1, 2), (2, 1)], [(4, 3)],
                     [(0, 4)], [(2, 0)]):
            web = Web(5, ways + more)
            self.assertEqual([is_shut(web, 0, 3), bubbles(web), plain_bubbles(web), bubble_end(web, 0)],
                             [False, [], [], None])
        for more in ([(4, 0)], [(3, 4)], [(3, 4), (4, 0)], [(3, 0)], [(1, 2)], [(0, 3)], [(1, 3)], [(4, 4)]):
            web = Web(5, ways + more)
            self.assertEqual([bubbles(web), plain_bubbles(web), inside(web, 0, 3)], [[(0, 3)], [(0, 3)], [0, 1, 2, 3]])

    def test_a_place_without_ties(self):
        # One that nothing leads to, one that leads nowhere, within and as the end.
        web = Web(5, [(0, 1), (0, 2), (1, 3)])
        self.assertEqual([bubbles(web), plain_bubbles(web), is_shut(web, 0, 3), bubble_end(web, 4)],
                         [[], [], False, None])
        web = Web(4, [(0, 1), (0, 2), (1, 3), (2, 3)])
        self.assertEqual([bubbles(web), bubble_end(web, 3)], [[(0, 3)], None])
        self.assertEqual([bubbles(Web(60, [])), plain_bubbles(Web(60, []))], [[], []])


class Bubbles(unittest.TestCase):
    def test_plain_ones(self):
        for web, shut in SMALL_SHUT:
            wanted = plainly_bubbles(web, shut)
            self.assertEqual([plain_bubbles(web), bubbles(web)], [wanted, wanted])
            for begin, end in product(range(web.places), repeat=2):
                self.assertIs(is_bubble(web, begin, end), (begin, end) in wanted)
            ends = dict(wanted)
            self.assertEqual(len(ends), len(wanted))
            for place in range(web.places):
                self.assertEqual(bubble_end(web, place), ends.get(place))

    def test_shut_but_no_bubbles(self):
        line = Web(3, [(0, 1), (1, 2), (2, 0)])
        self.assertEqual([is_shut(line, 0, 1), is_shut(line, 0, 2), is_bubble(line, 0, 1), bubbles(line)],
                         [True, True, False, []])
        two = Web(5, [(0, 1), (0, 1), (1, 2), (1, 3), (2, 4), (3, 4)])
        self.assertEqual([is_shut(two, 0, 1), is_shut(two, 0, 4), is_bubble(two, 0, 1), is_bubble(two, 0, 4)],
                         [True, True, True, False])
        self.assertEqual([bubbles(two), plain_bubbles(two)], [[(0, 1), (1, 4)], [(0, 1), (1, 4)]])
        # One tie from the begin, and a bubble behind it.
        late = Web(4, [(0, 1), (1, 2), (1, 2), (2, 3)])
        self.assertEqual([is_shut(late, 0, 2), is_shut(late, 0, 3), bubbles(late)], [True, True, [(1, 2)]])

    def test_one_within_another(self):
        web = Web(6, [(0, 1), (0, 5), (1, 2), (1, 3), (2, 4), (3, 4), (4, 5)])
        self.assertEqual([bubbles(web), plain_bubbles(web)], [[(0, 5), (1, 4)], [(0, 5), (1, 4)]])
        self.assertEqual([inside(web, 0, 5), inside(web, 1, 4)], [[0, 1, 2, 3, 4, 5], [1, 2, 3, 4]])

    def test_many_places(self):
        ladder = Web(60, [(place, place + 1) for place in range(59)] + [(0, 59)] + [(2 * at,
            2 * at + 2) for at in range(10)])
        wanted = [(0, 59)] + [(2 * at, 2 * at + 2) for at in range(1, 10)]
        self.assertEqual(plain_bubbles(ladder), bubbles(ladder))
        self.assertEqual(bubbles(ladder), wanted)
        self.assertEqual(inside(ladder, 0, 59), list(range(60)))
        chain = Web(41, [(at, at + 1) for at in range(40) for _ in range(2)])
        self.assertEqual([bubbles(chain), plain_bubbles(chain)], [[(at, at + 1) for at in range(40)]] * 2)

    def test_numbers_in_any_sequence(self):
        web = Web(5, [(3, 2), (0, 2), (4, 3), (4, 0), (2, 1), (0, 3)])
        self.assertEqual([bubbles(web), plain_bubbles(web), inside(web, 4, 2)], [[(4, 2)], [(4, 2)], [0, 2, 3, 4]])


class Ways(unittest.TestCase):
    def test_all_of_them(self):
        seen = 0
        for web, shut in SMALL_SHUT:
            for begin, end in bubbles(web):
                lot, inner = shut[begin, end]
                told = plain_ways(web, begin, end, inner)
                self.assertEqual([inside(web, begin, end), ways_through(web, begin, end)], [lot, told])
                self.assertGreater(len(told), 1)
                for prices in some_prices(web):
                    sums = [(sum(prices[tie] for tie in way), way) for way in told]
                    for values in (prices, tuple(prices)):
                        self.assertEqual(shortest_way(web, begin, end, values), min(sums))
                seen += 1
        self.assertGreater(seen, 90)

    def test_no_bubble(self):
        for web, shut in SMALL_SHUT[::3]:
            ends = plainly_bubbles(web, shut)
            for begin, end in product(range(web.places), repeat=2):
                if (begin, end) in ends:
                    continue
                for call in OF_BUBBLES:
                    check_fails(self, NotBubble, {}, call, web, begin, end)
                check_fails(self, NotBubble, {}, shortest_way, web, begin, end, [1] * web.many)
        check_fails(self, NotBubble, {}, inside, web=EYE, begin=3, end=4)
        check_fails(self, NotBubble, {}, ways_through, web=EYE, begin=0, end=4)
        check_fails(self, NotBubble, {}, shortest_way, web=EYE, begin=0, end=4, prices=[1] * 7)

    def test_ties_alike(self):
        web = Web(2, [(1, 0), (0, 1), (1, 0), (1, 0)])
        self.assertEqual([bubbles(web), inside(web, 1, 0), ways_through(web, 1, 0)],
                         [[(1, 0)], [0, 1], [[0], [2], [3]]])
        self.assertEqual([shortest_way(web, 1, 0, [3, 9, 2, 2]), shortest_way(web, 1, 0, [2, 1, 2, 2])],
                         [(2, [2]), (2, [0])])
        self.assertEqual(bubbles(Web(2, [(0, 1)] * 80)), [(0, 1)])
        self.assertEqual(ways_through(Web(2, [(0, 1)] * 80), 0, 1), [[tie] for tie in range(80)])

    def test_400_ways(self):
        def web_of(past):
            return Web(3, [(0, 1)] * 19 + [(1, 2)] * 19 + [(0, 2)] * past)
        told = ways_through(web_of(39), 0, 2)
        self.assertEqual([len(told), told == sorted(told), told[0], told[-1]], [400, True, [0, 19], [76]])
        check_fails(self, TooMany, {"what": "ways", "limit": 400}, ways_through, web_of(40), 0, 2)
        check_fails(self, NotBubble, {}, ways_through, web_of(40), 1, 0)

    def test_far_too_many_ways(self):
        # Each place on the long way has two ties to the next one, and one tie leads past all of it.
        web = Web(39, [(at // 2, at // 2 + 1) for at in range(76)] + [(0, 38)])
        self.assertEqual([bubbles(web)[0], inside(web, 0, 38)], [(0, 38), list(range(39))])
        check_fails(self, TooMany, {"what": "ways", "limit": 400}, ways_through, web, 0, 38)
        self.assertEqual(shortest_way(web, 0, 38, [1] * 77), (1, [76]))
        web = Web(9, [(at // 2, at // 2 + 1) for at in range(16)] + [(0, 8)])
        self.assertEqual(len(ways_through(web, 0, 8)), 257)
        self.assertEqual(shortest_way(web, 0, 8, [1] * 16 + [20]), (8, list(range(0, 16, 2))))
        self.assertEqual(shortest_way(web, 0, 8, [2, 1] * 8 + [8]), (8, list(range(1, 16, 2))))
        self.assertEqual(shortest_way(web, 0, 8, [20] * 16 + [20]), (20, [16]))

    def test_new_lists(self):
        for call, wanted in ((bubbles, [(0, 3)]), (plain_bubbles, [(0, 3)])):
            call(EYE).append(7)
            self.assertEqual(call(EYE), wanted)
        ways_through(EYE, 0, 3)[0].append(7)
        inside(EYE, 0, 3).append(7)
        shortest_way(EYE, 0, 3, [1] * 7)[1].append(7)
        self.assertEqual([ways_through(EYE, 0, 3), inside(EYE, 0, 3), shortest_way(EYE, 0, 3, [1] * 7)],
                         [[[0, 2], [0, 6, 3], [1, 3]], [0, 1, 2, 3], (2, [0, 2])])


class Parameters(unittest.TestCase):
    def test_parameters(self):
        web = Web(3, [(0, 1), (0, 1), (1, 2), (2, 0)])
        rows = [("web", web, WRONG_WEBS, InvalidWeb), ("begin", 0, WRONG_PLACES, InvalidPlace),
                ("end", 1, WRONG_PLACES, InvalidPlace)]
        for call in (is_shut, is_bubble, inside, ways_through):
            check_parameters(self, call, rows)
        check_parameters(self, shortest_way, rows + [("prices", [1, 1, 20, 20], WRONG_PRICES, InvalidPrices)])
        for call in (bubbles, plain_bubbles):
            check_parameters(self, call, rows[:1])
        check_parameters(self, bubble_end, [rows[0], ("place", 0, WRONG_PLACES, InvalidPlace)])

    def test_ahead_of_no_bubble(self):
        check_fails(self, InvalidPrices, {"value": [0]}, shortest_way, EYE, 3, 4, [0])
        for call in OF_BUBBLES:
            check_fails(self, InvalidPlace, {"value": HUGE}, call, EYE, 3, HUGE)
            check_fails(self, InvalidPlace, {"value": False}, call, EYE, False, 3)
