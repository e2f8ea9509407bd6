"""Points [3a3] to [3a6]: standings, parts of the product, what is sure and sure in lots."""

import unittest

from suretexts.avoiding import (
    is_sure_in_lots, is_sure_plain, lacking_lot, lacking_round, parts_without, product)
from suretexts.errors import InvalidWalk, InvalidWeb, NotClose
from suretexts.webs import Web
from tests.support import check_fails, check_parameters
from tests.test_tables import rows
from tests.test_webs import WRONG_WALKS, WRONG_WEBS
from tests.webs import (
    CLOSE, FEW, OPEN, come_to, goes_round, is_lacking, plainly_sure, reads, rounds, walks, windows_without)

TWO = Web(3, [(0, 1), (1, 0), (0, 2), (2, 0)])
EYES = Web(1, [(0, 0), (0, 0)])
RING = Web(3, [(0, 1), (1, 2), (2, 0)])
ALL = [product, parts_without, is_sure_plain, lacking_round, is_sure_in_lots, lacking_lot]


def some(webs, longest, every):
    """Some webs with some of their walks."""
    return [(web, walk) for web in webs for walk in walks(web, longest)[::every]]


CASES = some(CLOSE, 3, 1) + some(CLOSE[::3], 4, 3) + some(FEW, 4, 2) + some(FEW[:2], 6, 5) + some([EYES, RING], 6, 1)


class Products(unittest.TestCase):
    def check_product(self, web, walk):
        table, ties = rows(web, walk), web.ties()
        standings = {(place, 0) for place in range(web.places)}
        for _ in walk:
            standings |= {(ties[tie][1], table[state][tie]) for place, state in standings
                          for tie in web.ties_from(place) if table[state][tie] < len(walk)}
        told = sorted(standings)
        steps = sorted((at, told.index((ties[tie][1], table[state][tie])), tie) for at, (place, state) in enumerate(told)
                       for tie in web.ties_from(place) if table[state][tie] < len(walk))
        self.assertEqual(product(web, walk), (told, steps))

    def test_standings_that_come_so(self):
        for web, walk in CASES:
            self.check_product(web, walk)

    def test_fewer_standings_than_places_and_ties_together(self):
        for web, walk in CASES:
            standings, _ = product(web, walk)
            self.assertLess(len(standings), web.places + len(walk))
            above = [state for _, state in standings if state > 0]
            self.assertEqual(len(above), len(set(above)))

    def test_kinds(self):
        told = product(TWO, (0, 1, 2))
        self.assertEqual([type(told), type(told[0]), type(told[1]), type(told[0][0]), type(told[1][0])],
                         [tuple, list, list, tuple, tuple])
        told[0].append(7)
        told[1].append(7)
        self.assertEqual(product(TWO, [0, 1, 2]), (told[0][:-1], told[1][:-1]))

    def test_one_tie(self):
        self.assertEqual(product(TWO, [0]), ([(0, 0), (1, 0), (2, 0)], [(0, 2, 2), (1, 0, 1), (2, 0, 3)]))
        self.assertEqual(product(Web(1, [(0, 0)]), [0]), ([(0, 0)], []))

    def test_most(self):
        ring = Web(60, [(place, (place + 1) % 60) for place in range(60)])
        standings, steps = product(ring, (list(range(60)) * 7)[:400])
        # From each standing one step leads on, but from the last state, and from none of its place alone.
        self.assertEqual([len(standings), len(steps)], [459, 458])


class Parts(unittest.TestCase):
    def test_together(self):
        for web, walk in CASES:
            standings, steps = product(web, walk)
            onward = {at: {far for near, far, _ in steps if near == at} for at in range(len(standings))}
            reached = {at: come_to(onward, at) for at in onward}
            lots = {tuple(far for far in sorted(reached[at]) if at in reached[far]) for at in onward}
            wanted = sorted((list(lot), sorted({tie for near, far, tie in steps if near in lot and far in lot}))
                            for lot in lots if any(near in lot and far in lot for near, far, _ in steps))
            self.assertEqual(parts_without(web, walk), wanted)

    def test_ties_of_windows(self):
        for web, walk in CASES[::3]:
            self.assertEqual(sorted(ties for _, ties in parts_without(web, walk)),
                             sorted(sorted(ties) for ties in windows_without(web, walk)))

    def test_standings_in_no_part(self):
        # Without the only tie of a single ring one comes to nothing.
        self.assertEqual(parts_without(RING, [0]), [])
        self.assertEqual(parts_without(Web(1, [(0, 0)]), [0] * 400), [])

    def test_a_tie_in_several_parts(self):
        web = Web(2, [(0, 1), (1, 0), (0, 1)])
        self.assertEqual(parts_without(web, [1, 0]), [([1, 2], [1, 2])])
        self.assertEqual(parts_without(web, [0, 1, 2]), [([0, 2], [1, 2]), ([1, 3], [0, 1])])


class Sure(unittest.TestCase):
    def test_windows(self):
        for web, walk in CASES:
            self.assertIs(is_sure_plain(web, walk), plainly_sure(web, walk))
            self.assertIs(is_sure_in_lots(web, walk), len(set().union(*windows_without(web, walk))) < web.many)

    def test_all_rounds(self):
        for web in CLOSE[::17] + FEW[:2]:
            covering = [tour for tour in rounds(web, 7) if len(set(tour)) == web.many]
            for walk in walks(web, 4):
                if is_sure_plain(web, walk):
                    self.assertTrue(all(reads(tour, walk) for tour in covering))

    def test_lacking_rounds(self):
        for web, walk in CASES:
            told = lacking_round(web, walk)
            if is_sure_plain(web, walk):
                self.assertIsNone(told)
            else:
                self.assertTrue(is_lacking(web, told, walk))

    def test_lacking_lots(self):
        for web, walk in CASES:
            told = lacking_lot(web, walk)
            if is_sure_in_lots(web, walk):
                self.assertIsNone(told)
                self.assertTrue(is_sure_plain(web, walk))
            else:
                self.assertIs(type(told), list)
                self.assertEqual({tie for tour in told for tie in tour}, set(range(web.many)))
                for tour in told:
                    self.assertTrue(goes_round(web, tour))
                    self.assertFalse(reads(tour, walk))

    def test_sure_but_not_in_lots(self):
        self.assertEqual([is_sure_plain(EYES, [0, 1]), is_sure_in_lots(EYES, [0, 1])], [True, False])
        self.assertEqual(sorted(sorted(set(tour)) for tour in lacking_lot(EYES, [0, 1])), [[0], [1]])
        self.assertIsNone(lacking_round(EYES, [0, 1]))

    def test_one_tie(self):
        for web in CLOSE[::5] + FEW:
            for tie in range(web.many):
                self.assertEqual([is_sure_plain(web, [tie]), is_sure_in_lots(web, [tie])], [True, True])

    def test_single_rings(self):
        for walk in ([0], [0, 1], [2, 0, 1, 2], ([0, 1, 2] * 134)[:400]):
            self.assertEqual([is_sure_plain(RING, walk), lacking_round(RING, walk), is_sure_in_lots(RING, walk),
                              lacking_lot(RING, walk)], [True, None, True, None])

    def test_large(self):
        loops = Web(1, [(0, 0)] * 80)
        walk = [tie % 79 for tie in range(400)]
        self.assertTrue(is_lacking(loops, lacking_round(loops, walk), walk))
        web = Web(60, [(place, (place + 1) % 60) for place in range(60)] + [(place, 0) for place in range(20)])
        walk = (list(range(60)) * 7)[:400]
        self.assertTrue(is_lacking(web, lacking_round(web, walk), walk))
        self.assertFalse(any(reads(tour, walk) for tour in lacking_lot(web, walk)))

    def test_tuples(self):
        for call in ALL:
            self.assertEqual(call(TWO, (1, 0)), call(TWO, [1, 0]))


class Parameters(unittest.TestCase):
    def test_parameters(self):
        for call in ALL:
            check_parameters(self, call, [
                ("web", TWO, WRONG_WEBS, InvalidWeb), ("walk", [1, 0], WRONG_WALKS, InvalidWalk)])

    def test_not_close(self):
        for call in ALL:
            for web, walk in OPEN:
                check_fails(self, NotClose, {}, call, web, walk)
                check_fails(self, NotClose, {}, call, web=web, walk=tuple(walk))
                check_fails(self, InvalidWalk, {"value": [80]}, call, web, [80])
            check_fails(self, InvalidWalk, {"value": []}, call, Web(1, []), [])
