"""What rounds cost, by the plainest reckoning, and values that are no prices."""

from itertools import product

from tests.support import HUGE, LISTS, NUMBERS, ODD, STRINGS

# For a web of four ties.
WRONG_PRICES = ODD + NUMBERS + STRINGS + LISTS + [
    "1111", [1], [1, 1, 1], (1, 1, 1), [1, 1, 1, 1, 1], [0, 1, 1, 1], [1, 1, 1, 21], (1, 21, 1, 1), [1, 1, -1, 1],
    [HUGE, 1, 1, 1], [True, 1, 1, 1], [1, 1, 1, True], [1, False, 1, 1], [1, 1, None, 1], [1, 1, 1, "1"], ["1"] * 4,
    [[1, 1, 1, 1]], [[1], 1, 1, 1], {0: 1, 1: 1, 2: 1, 3: 1}, [1] * 400]


def some_prices(web):
    """Lists of prices, low and high, alike and unlike."""
    many = web.many
    return [[1] * many, [20] * many, [1 + (7 * tie + 3) % 20 for tie in range(many)],
            [1 + (tie * tie + many) % 4 for tie in range(many)], [(20, 1)[tie % 2] for tie in range(many)]]


def missing_at(web, extras):
    """For each place the extras that come there less those that go, less what is to be made up for."""
    told = [0] * web.places
    for tie, (near, far) in enumerate(web.ties()):
        told[far] += extras[tie] + 1
        told[near] -= extras[tie] + 1
    return told


def plain_least(web, prices, most):
    """The least tuple (price, ties) of a covering round, by all extras up to the most."""
    return min((sum(prices) + sum(price * extra for price, extra in zip(prices, extras)), web.many + sum(extras))
               for extras in product(range(most + 1), repeat=web.many) if not any(missing_at(web, extras)))


def plain_worth(web, prices, value):
    """The worth of prices of places, or None."""
    ties = web.ties()
    if any(value[far] - value[near] > prices[tie] for tie, (near, far) in enumerate(ties)):
        return None
    # Of each tie the price, and what its place from is worth less its place to.
    return sum(prices) + sum(value[near] - value[far] for near, far in ties)
