"""Points [5a1], [5a3] and [5a5]: least prices, least rounds, shortest rings."""

import random
import unittest

from suretexts.errors import InvalidPieces, InvalidPrices, InvalidRound, InvalidWeb, NotClose, TooMany
from suretexts.flows import extras_of, is_price_paper, price_paper
from suretexts.pieced import has_just, ring_pieces
from suretexts.pieces import PieceWeb
from suretexts.shortest import (
    least_price, least_round, plain_least_price, price_of, shortest_length, shortest_ring)
from suretexts.webs import Web
from tests.prices import WRONG_PRICES, plain_least, some_prices
from tests.support import check_fails, check_parameters, words
from tests.test_flows import WIDE
from tests.test_greatest import CUT, LINE, RINGS
from tests.test_pieced import PIECES_60_WORDS, WRONG_PIECES
from tests.test_webs import WRONG_ROUNDS, WRONG_WEBS
from tests.webs import CLOSE, FEW, OPEN, SMALL, goes_round, plainly_close, rounds

TWO = Web(3, [(0, 1), (1, 0), (0, 2), (2, 0)])
TWICE = Web(2, [(0, 1), (0, 1), (1, 0)])
NONE_CLOSE = [["ab"], ["ab", "bc"], ["aa", "bb"], ["abc", "bca"], ["aa", "ab"]]


def wide_pieces(near, far, line):
    """Pieces of two letters: each of some letters ahead of each of others, and one long way back."""
    letters = "abcdefghijklmnopqrstuvwxyz"
    first, second, third = letters[:near], letters[near:near + far], letters[near + far:near + far + line]
    pieces = [one + two for one in first for two in second] + [two + third[0] for two in second]
    return pieces + [third[at:at + 2] for at in range(line - 1)] + [third[-1] + one for one in first]


class Least(unittest.TestCase):
    def test_small_webs(self):
        for web in CLOSE:
            for prices in some_prices(web):
                least, _ = plain_least(web, prices, 4)
                self.assertEqual([least_price(web, prices), plain_least_price(web, tuple(prices))], [least, least])

    def test_covering_rounds(self):
        for web in CLOSE[::19] + FEW[:2]:
            covering = [tour for tour in rounds(web, 7) if len(set(tour)) == web.many]
            for prices in some_prices(web):
                least = least_price(web, prices)
                told = [sum(prices[tie] for tie in tour) for tour in covering]
                self.assertTrue(all(price >= least for price in told))
                # So many ties are enough for prices that are alike.
                if plain_least(web, prices, 4)[1] <= 7:
                    self.assertEqual(min(told), least)

    def test_ten_ties(self):
        draw = random.Random(2)
        for places in (1, 2, 3, 5, 9, 10):
            for _ in range(4):
                ties = [(place, (place + 1) % places) for place in range(places)]
                ties += [(draw.randrange(places), draw.randrange(places)) for _ in range(10 - places)]
                web = Web(places, ties)
                for prices in some_prices(web)[1:4]:
                    self.assertEqual(plain_least_price(web, prices), least_price(web, prices))

    def test_eleven_ties(self):
        for web in (Web(1, [(0, 0)] * 11), Web(11, [(at, (at + 1) % 11) for at in range(11)]), CUT, LINE, WIDE):
            prices = [1] * web.many
            check_fails(self, TooMany, {"what": "ties", "limit": 10}, plain_least_price, web, prices)
            self.assertGreaterEqual(least_price(web, prices), web.many)

    def test_prices(self):
        self.assertEqual([least_price(TWO, [1] * 4), least_price(TWO, [20] * 4), least_price(TWICE, (20, 20, 20)),
                          least_price(TWICE, (1, 1, 20)), least_price(TWICE, [1, 2, 3])], [4, 80, 80, 42, 9])

    def test_papers(self):
        for web in FEW + [CUT, LINE, WIDE]:
            for prices in some_prices(web):
                least, paper = least_price(web, prices), price_paper(web, prices)
                self.assertEqual([is_price_paper(web, prices, paper, many) for many in (least, least + 1)], [True, False])


class LeastRounds(unittest.TestCase):
    def check(self, web, prices):
        told = least_round(web, prices)
        self.assertTrue(goes_round(web, told))
        self.assertEqual(set(told), set(range(web.many)))
        return (sum(prices[tie] for tie in told), len(told))

    def test_small_webs(self):
        for web in CLOSE:
            for prices in some_prices(web):
                self.assertEqual(self.check(web, prices), plain_least(web, prices, 4), (web.ties(), prices))

    def test_few_webs(self):
        for web in FEW:
            for prices in some_prices(web):
                self.assertEqual(self.check(web, prices), plain_least(web, prices, 2))

    def test_large(self):
        for web in RINGS + [CUT, LINE, WIDE, Web(1, [(0, 0)] * 80)]:
            for prices in some_prices(web):
                price, many = self.check(web, prices)
                self.assertEqual([price, many], [least_price(web, prices), web.many + sum(extras_of(web, prices))])

    def test_fewest_ties_of_one_price(self):
        web = Web(3, [(0, 1), (0, 1), (0, 1), (1, 2), (2, 0), (1, 0)])
        self.assertEqual(self.check(web, [1, 1, 1, 1, 1, 2]), (9, 7))


class Prices(unittest.TestCase):
    def test_each_tie_as_often_as_it_stands(self):
        for web in SMALL[::9] + FEW:
            for tour in rounds(web, 5):
                for prices in some_prices(web):
                    wanted = sum(prices[tie] for tie in tour)
                    self.assertEqual([price_of(web, prices, tour), price_of(web, tuple(prices), tuple(tour))],
                                     [wanted, wanted])

    def test_any_web_and_any_round(self):
        web = Web(4, [(0, 1), (1, 0), (1, 2)])
        self.assertEqual([price_of(web, [5, 7, 1], [0, 1]), price_of(web, [5, 7, 1], [1, 0, 1, 0])], [12, 24])
        self.assertEqual(price_of(TWICE, [1, 2, 3], [0, 2, 1, 2]), 9)
        self.assertEqual(price_of(Web(1, [(0, 0)]), [20], [0] * 200000), 4000000)


class Rings(unittest.TestCase):
    def check(self, pieces):
        told = shortest_ring(pieces)
        self.assertIs(type(told), str)
        self.assertTrue(has_just(told, pieces))
        self.assertEqual(shortest_length(pieces), len(told))
        return len(told)

    def test_all_rings(self):
        for size, letters, longest in ((2, "abc", 7), (3, "ab", 9), (4, "ab", 8)):
            least = {}
            for ring in words(letters, longest):
                least.setdefault(tuple(piece for piece, _ in ring_pieces(ring, size)), len(ring))
            for pieces, many in list(least.items())[::3]:
                if many < longest:
                    self.assertEqual(self.check(list(pieces)), many)

    def test_examples(self):
        self.assertEqual([self.check(["ab", "ba", "ac", "ca"]), self.check(("aa", "ba", "ab")), self.check(["aaa"])],
                         [4, 3, 1])
        self.assertEqual([self.check(["aa", "ab", "ba", "bb"]), self.check(["aab", "aba", "baa"])], [4, 3])

    def test_pieces_that_come_again(self):
        # Two pieces lead to c, but one from it.
        self.assertEqual(self.check(["ab", "ac", "ba", "ca", "bc"]), 7)
        self.assertEqual(self.check(PIECES_60_WORDS), 60)

    def test_four_hundred_letters(self):
        # Each of 25 pairs is read once, and behind each the whole way back.
        pieces = wide_pieces(5, 5, 14)
        self.assertEqual(self.check(pieces), 25 * 16)
        for more, letters in ((["aa"], 401), (["zz", "xz", "zx"], 403)):
            self.assertEqual(shortest_length(pieces + more), letters)
            check_fails(self, TooMany, {"what": "letters", "limit": 400}, shortest_ring, pieces + more)
        self.assertEqual(shortest_length(wide_pieces(5, 6, 15)), 30 * 17)
        check_fails(self, TooMany, {"what": "letters", "limit": 400}, shortest_ring, wide_pieces(5, 6, 15))

    def test_parameters(self):
        for call in (shortest_ring, shortest_length):
            check_parameters(self, call, [("pieces", ["ab", "ba"], WRONG_PIECES, InvalidPieces)])

    def test_not_close(self):
        for call in (shortest_ring, shortest_length):
            for pieces in NONE_CLOSE:
                check_fails(self, NotClose, {}, call, pieces)
                check_fails(self, NotClose, {}, call, pieces=tuple(pieces))
            check_fails(self, NotClose, {}, call, wide_pieces(5, 6, 15)[:-5])


class Parameters(unittest.TestCase):
    def test_parameters(self):
        rows = [("web", TWO, WRONG_WEBS, InvalidWeb), ("prices", [1, 2, 20, 1], WRONG_PRICES, InvalidPrices)]
        for call in (least_price, plain_least_price, least_round):
            check_parameters(self, call, rows)
        check_parameters(self, price_of, rows + [("tour", [0, 1], WRONG_ROUNDS, InvalidRound)])

    def test_not_close(self):
        for web in [web for web, _ in OPEN] + [web for web in SMALL if not plainly_close(web)][::9] + [
                Web(2, [(0, 0)] * 11)]:
            prices = [1] * web.many
            for call in (least_price, plain_least_price, least_round):
                check_fails(self, NotClose, {}, call, web, prices)
                check_fails(self, NotClose, {}, call, web=web, prices=prices)
                check_fails(self, InvalidPrices, {"value": prices + [1]}, call, web, prices + [1])
