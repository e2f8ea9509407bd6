"""How many rounds by counts there are, told without making them."""

from math import factorial, gcd

from suretexts.parts import is_close
from suretexts.prices import need_counts, sent_out, taken_in
from suretexts.webs import need_place, need_web


def _minor(web, counts, place):
    """The table whose determinant tells the trees to the place."""
    others = [other for other in range(web.places) if other != place]
    out = sent_out(web, counts)
    rows = {near: {far: 0 for far in others} for near in others}
    for near in others:
        rows[near][near] = out[near]
    for tie, (start, end) in enumerate(web.ties()):
        if start in rows and end in rows:
            rows[start][end] = rows[start][end] - counts[tie]
    return [[rows[near][far] for far in others] for near in others]


def _determinant(table):
    """The determinant of such a table, in whole numbers: each division leaves no rest.

    In each row the diagonal is at least all others together, without their
    signs, and this stays so: a 0 there tells of a row of nothing else.
    """
    rows = list(table)
    ahead = 1
    for at in range(len(rows)):
        top = rows[at]
        if top[at] == 0:
            return 0
        for low in range(at + 1, len(rows)):
            row = rows[low]
            rows[low] = [(row[k] * top[at] - row[at] * top[k]) // ahead for k in range(len(rows))]
        ahead = top[at]
    return ahead


def trees_to(web, counts, place):
    """The sum of the weights of all trees to the place."""
    need_web(web)
    need_counts(web, counts)
    need_place(web, place)
    return _determinant(_minor(web, counts, place))


def are_balanced(web, counts):
    """Whether there is a round with these counts."""
    return is_close(web) and sent_out(web, counts) == taken_in(web, counts)


def ways(web, counts):
    """In how many ways balanced counts are gone along."""
    need_web(web)
    need_counts(web, counts)
    if not are_balanced(web, counts):
        return 0
    number = sum(counts) * trees_to(web, counts, 0)
    for many in sent_out(web, counts):
        number = number * factorial(many - 1)
    for count in counts:
        number = number // factorial(count)
    return number


def _with_no_divisor_in_common(number):
    """How many of 1 to the number have no divisor but 1 in common with it."""
    return len([k for k in range(1, number + 1) if gcd(k, number) == 1])


def how_many(web, counts):
    """The number of counted rounds."""
    if ways(web, counts) == 0:
        return 0
    together = 0
    for number in range(1, min(counts) + 1):
        if all([count % number == 0 for count in counts]):
            part = ways(web, [count // number for count in counts])
            together += _with_no_divisor_in_common(number) * part
    return together // sum(counts)
