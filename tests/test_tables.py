"""Points [3a1] and [3a2]: states, tables, falling back."""

import random
import unittest

from suretexts.errors import InvalidWalk, InvalidWeb
from suretexts.tables import falls, plain_table, table
from suretexts.webs import Web
from tests.support import check_parameters
from tests.test_webs import WRONG_WALKS, WRONG_WEBS
from tests.webs import FEW, OPEN, SMALL, walks

TWO = Web(3, [(0, 1), (1, 0), (0, 2), (2, 0)])
EYES = Web(1, [(0, 0), (0, 0)])
LOOPS = Web(1, [(0, 0)] * 80)


def state_behind(walk, read):
    """The greatest number of first ties of the walk that are the last ones read."""
    return max(many for many in range(len(read) + 1) if read[len(read) - many:] == walk[:many])


def rows(web, walk):
    return [[state_behind(walk, walk[:state] + [tie]) for tie in range(web.many)] for state in range(len(walk))]


class Tables(unittest.TestCase):
    def check(self, web, walk):
        wanted = rows(web, walk)
        for call in (table, plain_table):
            self.assertEqual(call(web, walk), wanted)
            self.assertEqual(call(web, tuple(walk)), wanted)

    def test_small_webs(self):
        for web in SMALL[::2] + FEW + [web for web, _ in OPEN]:
            for walk in walks(web, 4)[::3]:
                self.check(web, walk)

    def test_walks_that_repeat_themselves(self):
        for walk in walks(EYES, 7):
            self.check(EYES, walk)
        self.assertEqual(table(EYES, [0, 0, 1, 0, 0]), [[1, 0], [2, 0], [2, 3], [4, 0], [5, 0]])

    def test_one_tie(self):
        for web in SMALL:
            for tie in range(web.many):
                wanted = [[int(other == tie) for other in range(web.many)]]
                self.assertEqual([table(web, [tie]), plain_table(web, [tie])], [wanted, wanted])

    def test_a_tie_leads_to_the_walks_length_just_behind_all_others(self):
        for web in FEW:
            for walk in walks(web, 4):
                for state, row in enumerate(table(web, walk)):
                    self.assertEqual([tie for tie, more in enumerate(row) if more == len(walk)],
                                     [walk[-1]] if state == len(walk) - 1 else [])
                    self.assertEqual(row[walk[state]], state + 1)

    def test_long_walks(self):
        draw = random.Random(3)
        for signs in (1, 2, 80):
            walk = [draw.randrange(signs) for _ in range(400)]
            told = table(LOOPS, walk)
            self.assertEqual(plain_table(LOOPS, walk), told)
            self.assertEqual([len(told), {len(row) for row in told}], [400, {80}])
        twice = walk[:200] * 2
        self.assertEqual(table(LOOPS, twice), plain_table(LOOPS, twice))

    def test_new_lists(self):
        for call in (table, plain_table):
            told = call(EYES, [0, 0, 1])
            told[0][0] = 7
            told.append(7)
            self.assertEqual(call(EYES, [0, 0, 1]), [[1, 0], [2, 0], [2, 3]])
            told = call(EYES, [0, 1])
            self.assertEqual(len({id(row) for row in told}), 2)

    def test_parameters(self):
        for call in (table, plain_table):
            check_parameters(self, call, [
                ("web", TWO, WRONG_WEBS, InvalidWeb), ("walk", [0, 1], WRONG_WALKS, InvalidWalk)])


class Falls(unittest.TestCase):
    def test_ties_that_are_the_last_ones(self):
        for web in [EYES] + FEW:
            for walk in walks(web, 6 if web is EYES else 4):
                wanted = [max([many for many in range(state) if walk[state - many:state] == walk[:many]] + [0])
                          for state in range(len(walk))]
                self.assertEqual(falls(web, walk), wanted)
                self.assertEqual(falls(web, tuple(walk)), wanted)

    def test_next_states_by_the_fall(self):
        for walk in walks(EYES, 7):
            told = falls(EYES, walk)
            for state, row in enumerate(table(EYES, walk)):
                for tie, more in enumerate(row):
                    other = table(EYES, walk)[told[state]][tie] if state > 0 else 0
                    self.assertEqual(more, state + 1 if tie == walk[state] else other)

    def test_edges(self):
        self.assertEqual([falls(EYES, [0]), falls(EYES, [0, 0]), falls(EYES, [0, 1])], [[0], [0, 0], [0, 0]])
        self.assertEqual(falls(EYES, [0] * 400), [0] + list(range(399)))
        self.assertEqual(falls(EYES, [0] * 399 + [1]), [0] + list(range(399)))
        self.assertEqual(falls(EYES, [0] + [1] * 399), [0] * 400)

    def test_parameters(self):
        check_parameters(self, falls, [
            ("web", TWO, WRONG_WEBS, InvalidWeb), ("walk", [0, 1], WRONG_WALKS, InvalidWalk)])
