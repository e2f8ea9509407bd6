"""Points [5a2] to [5a4]: extras, prices of places, price papers."""

import random
import unittest
from itertools import product

from suretexts.errors import InvalidMany, InvalidPrices, InvalidWeb, NotClose
from suretexts.flows import extras_of, is_price_paper, price_paper, worth
from suretexts.webs import Web
from tests.prices import WRONG_PRICES, missing_at, plain_least, plain_worth, some_prices
from tests.support import HUGE, LISTS, NUMBERS, ODD, STRINGS, WRONG_COUNTS, changed, check_fails, check_parameters
from tests.test_greatest import CUT, LINE, RINGS
from tests.test_webs import WRONG_WEBS
from tests.webs import CLOSE, FEW, OPEN, rounds

TWO = Web(3, [(0, 1), (1, 0), (0, 2), (2, 0)])
TWICE = Web(2, [(0, 1), (0, 1), (1, 0)])
# From five places to six, each to each, and back by one long way.
WIDE = Web(29, [(near, 5 + far) for near in range(5) for far in range(6)] + [(5 + far, 11) for far in range(6)]
           + [(11 + at, 12 + at) for at in range(17)] + [(28, near) for near in range(5)])


class Extras(unittest.TestCase):
    def check(self, web, prices):
        """Check that extras are right, and tell the price and the ties of a round with them."""
        told = extras_of(web, prices)
        self.assertEqual([type(told), len(told)], [list, web.many])
        self.assertTrue(all(type(extra) is int and extra >= 0 for extra in told))
        self.assertFalse(any(missing_at(web, told)))
        return (sum(price * (1 + extra) for price, extra in zip(prices, told)), web.many + sum(told))

    def test_small_webs(self):
        for web in CLOSE:
            for prices in some_prices(web):
                self.assertEqual(self.check(web, prices), plain_least(web, prices, 4), (web.ties(), prices))

    def test_covering_rounds(self):
        for web in CLOSE[::19] + FEW[:2]:
            covering = [tour for tour in rounds(web, 7) if len(set(tour)) == web.many]
            for prices in some_prices(web):
                price, many = self.check(web, prices)
                costs = [(sum(prices[tie] for tie in tour), len(tour)) for tour in covering]
                self.assertGreaterEqual(min(costs), (price, many))
                if many <= 7:
                    self.assertEqual(min(costs), (price, many))

    def test_few_webs(self):
        for web in FEW:
            for prices in some_prices(web):
                self.assertEqual(self.check(web, prices), plain_least(web, prices, 2))

    def test_fewest_ties_of_one_price(self):
        # Back from 1 to 0 by one tie of the price 2, or by two of the price 1.
        for ties in ([(0, 1), (0, 1), (0, 1), (1, 0), (1, 2), (2, 0)], [(0, 1), (0, 1), (0, 1), (1, 2), (2, 0), (1, 0)]):
            web = Web(3, ties)
            prices = [2 if ends == (1, 0) else 1 for ends in ties]
            self.assertEqual(extras_of(web, prices), [int(ends == (1, 0)) for ends in ties])
        # By many short ties, or by few long ones, of one price.
        for many in range(2, 20):
            line = [(at + 1, at + 2) for at in range(many - 1)] + [(many, 0)]
            web = Web(many + 1, [(0, 1)] * 4 + line + [(1, 0)])
            self.assertEqual(extras_of(web, [1] * (4 + many) + [many]), [0] * (4 + many) + [2])
            self.assertEqual(extras_of(web, [1] * (4 + many) + [many + 1]), [0] * 4 + [2] * many + [0])

    def test_no_extras(self):
        for web in RINGS + [TWO, LINE, Web(1, [(0, 0)] * 80)]:
            for prices in some_prices(web):
                self.assertEqual(extras_of(web, prices), [0] * web.many)

    def test_extras_taken_back(self):
        # The cheapest way for one place is no good for both: 0 and 1 have one tie too many to them.
        web = Web(4, [(2, 0), (3, 0), (2, 1), (3, 1), (0, 2), (1, 2), (0, 3), (1, 3), (2, 0), (3, 1)])
        for prices in product((1, 5), repeat=4):
            told = [1, 1, 1, 1, *prices, 1, 1]
            self.assertEqual(self.check(web, told), plain_least(web, told, 2))

    def test_large(self):
        for web in (CUT, LINE, WIDE):
            for prices in some_prices(web):
                price, _ = self.check(web, prices)
                self.assertEqual(price, plain_worth(web, prices, price_paper(web, prices)))
        self.assertEqual(self.check(WIDE, [1] * WIDE.many), (30 * 20, 600))

    def test_drawn_webs(self):
        draw = random.Random(7)
        for _ in range(60):
            places = draw.randint(2, 30)
            ties = [(place, (place + 1) % places) for place in range(places)]
            ties += [(draw.randrange(places), draw.randrange(places)) for _ in range(draw.randint(1, 80 - places))]
            web = Web(places, ties)
            prices = [draw.randint(1, 20) for _ in ties]
            self.assertEqual(self.check(web, prices)[0], plain_worth(web, prices, price_paper(web, prices)))

    def test_tuples(self):
        prices = (1, 2, 3)
        self.assertEqual([extras_of(TWICE, prices), extras_of(TWICE, [1, 2, 3])], [[0, 0, 1]] * 2)


class Worth(unittest.TestCase):
    def test_all_values(self):
        for web in CLOSE[::9]:
            for prices in some_prices(web)[:3]:
                for value in product(range(-3, 4), repeat=web.places):
                    told = plain_worth(web, prices, value)
                    self.assertEqual([worth(web, prices, value), worth(web, prices, list(value))], [told, told])
                    for many in range(0, 90, 7):
                        wanted = told is not None and told >= many
                        self.assertIs(is_price_paper(web, prices, value, many), wanted)

    def test_none_below_the_worth(self):
        for web in CLOSE[::9]:
            for prices in some_prices(web)[:2]:
                least, _ = plain_least(web, prices, 4)
                for value in product(range(-2, 3), repeat=web.places):
                    told = worth(web, prices, value)
                    self.assertTrue(told is None or told <= least)

    def test_papers(self):
        for web in CLOSE[::5] + FEW:
            for prices in some_prices(web):
                least, _ = plain_least(web, prices, 4 if web.many < 5 else 2)
                told = price_paper(web, prices)
                self.assertEqual([type(told), len(told)], [list, web.places])
                self.assertEqual([worth(web, prices, told), plain_worth(web, prices, told)], [least, least])
                self.assertEqual([is_price_paper(web, prices, told, many) for many in (0, least - 1, least, least + 1)],
                                 [True, True, True, False])

    def test_low_worths(self):
        # Each tie costs at least what its places differ by, so no worth is below 0, however low the prices are.
        self.assertEqual([worth(TWICE, [1, 2, 3], value) for value in ([0, 1], [0, 0], [0, -3], [-9, -8], [-9, -12])],
                         [5, 6, 9, 5, 9])
        web = Web(2, [(0, 1)] * 30 + [(1, 0)])
        self.assertEqual([worth(web, [1] * 30 + [20], [0, low]) for low in (2, 1, 0, -20, -21)], [None, 21, 50, 630, None])
        for small in CLOSE[::9]:
            for value in product(range(-2, 3), repeat=small.places):
                told = worth(small, [1] * small.many, value)
                self.assertTrue(told is None or told > 0)

    def test_no_prices_of_places(self):
        good = [3, 0]
        self.assertEqual(worth(TWICE, [1, 2, 3], good), 9)
        for value in ODD + NUMBERS + STRINGS + LISTS + changed(good, ODD + STRINGS + LISTS) + [
                [3], [3, 0, 0], [4, 0], [0, 2], [0, HUGE], [-HUGE, 0], [True, 0], [3, False], {3: 1, 0: 1}, [[3, 0]]]:
            shown = repr(value)
            with self.subTest(value=value):
                self.assertIsNone(worth(TWICE, [1, 2, 3], value))
                self.assertIs(is_price_paper(TWICE, [1, 2, 3], value, 0), False)
                self.assertEqual(repr(value), shown)

    def test_any_integers(self):
        self.assertEqual([worth(TWICE, [1, 2, 3], value) for value in ([HUGE, HUGE - 3], (3 - HUGE, -HUGE), [-5, -8])],
                         [9, 9, 9])
        self.assertEqual([is_price_paper(TWICE, [1, 2, 3], (3, 0), many) for many in (9, 10, HUGE)], [True, False, False])


class Parameters(unittest.TestCase):
    def test_parameters(self):
        rows = [("web", TWO, WRONG_WEBS, InvalidWeb), ("prices", [1, 2, 20, 1], WRONG_PRICES, InvalidPrices)]
        for call in (extras_of, price_paper):
            check_parameters(self, call, rows)
        check_parameters(self, worth, rows + [("value", [0, 0, 0], [], None)])
        check_parameters(self, is_price_paper, rows + [
            ("value", [0, 0, 0], [], None), ("many", 7, WRONG_COUNTS, InvalidMany)])

    def test_not_close(self):
        for web, _ in OPEN:
            prices = [1] * web.many
            for call in (extras_of, price_paper):
                check_fails(self, NotClose, {}, call, web, prices)
                check_fails(self, NotClose, {}, call, web=web, prices=prices)
                check_fails(self, InvalidPrices, {"value": prices + [1]}, call, web, prices + [1])
            for value in (None, [0] * web.places):
                check_fails(self, NotClose, {}, worth, web, prices, value)
                check_fails(self, NotClose, {}, is_price_paper, web, prices, value, 0)
                check_fails(self, InvalidMany, {"value": -1}, is_price_paper, web, prices, value, -1)
        check_fails(self, NotClose, {}, extras_of, Web(1, []), [])
