"""What the tests share: values that are wrong for parameters, and checks of calls."""

from itertools import product

from suretexts.lots import Lot

HUGE = 10 ** 30 - 1


class Other:
    """A value of a kind that the package does not know."""


OTHER = Other()
LOT = Lot(2, [("ab", 1)])

# Nothing that is a number, a string, a list or a tuple.
ODD = [None, True, False, {}, {"a": 1}, {1}, b"ab", OTHER, LOT, len, Lot]
NUMBERS = [0, 1, -1, 7, HUGE, -HUGE]
STRINGS = ["", "a", "ab"]
LISTS = [[], (), [0], ["a"], [[[]]], ((1, 2),)]

WRONG_TEXTS = ODD + NUMBERS + LISTS + [
    "A", "aB", "a b", " ", "ab\n", "\n", "-", "a1", "`", "{", "a" * 401, ["ab"], ("ab",)]
WRONG_RINGS = WRONG_TEXTS + [""]
WRONG_COUNTS = ODD + STRINGS + LISTS + [-1, -HUGE]
WRONG_SIZES = ODD + STRINGS + LISTS + [-2, 0, 1, 9, HUGE]
WRONG_LOTS = [value for value in ODD if value is not LOT] + NUMBERS + STRINGS + LISTS + [(2, [])]
WRONG_TIMES = ODD + STRINGS + LISTS + [-1, 0, 21, HUGE]
WRONG_LEASTS = ODD + STRINGS + LISTS + [-1, 0, -HUGE]


def words(letters, longest, shortest=1):
    """All words over the letters from the shortest length to the longest."""
    return ["".join(signs) for size in range(shortest, longest + 1) for signs in product(letters, repeat=size)]


def check_fails(case, error, attributes, call, *args, **named):
    """Check that the call raises just this error, with these attributes."""
    with case.assertRaises(error) as caught:
        call(*args, **named)
    case.assertIs(type(caught.exception), error)
    case.assertEqual(sorted(vars(caught.exception)), sorted(attributes))
    for name, value in attributes.items():
        told = getattr(caught.exception, name)
        case.assertIs(type(told), type(value))
        case.assertEqual(told, value)


def check_parameters(case, call, rows):
    """Check names, wrong values and the sequence of the errors of a call.

    Each row is a tuple (name of the parameter, a good value, wrong values,
    the error), in the sequence of the parameters.
    """
    names = [row[0] for row in rows]
    good = [row[1] for row in rows]
    before = repr(good)
    told = call(*good)
    case.assertIs(type(call(**dict(zip(names, good)))), type(told))
    for at, (name, _, wrongs, error) in enumerate(rows):
        # Behind a wrong value all others may be wrong as well.
        later = [row[2][at % len(row[2])] if row[2] else row[1] for row in rows[at + 1:]]
        for wrong in wrongs:
            shown = repr(wrong)
            args = good[:at] + [wrong] + good[at + 1:]
            with case.subTest(call=call, name=name, wrong=wrong):
                check_fails(case, error, {"value": wrong}, call, *args)
                check_fails(case, error, {"value": wrong}, call, **dict(zip(names, args)))
                check_fails(case, error, {"value": wrong}, call, *good[:at], wrong, *later)
                case.assertEqual(repr(wrong), shown)
    case.assertEqual(repr(good), before)


def changed(value, others):
    """All that comes of the value, or of a part of it however deep, put as one of the others."""
    told = list(others)
    if isinstance(value, (list, tuple)):
        for at, part in enumerate(value):
            told += [type(value)([*value[:at], other, *value[at + 1:]]) for other in changed(part, others)]
    return told


def as_tuples(value):
    """The value with a tuple for each list, however deep."""
    return tuple(as_tuples(part) for part in value) if isinstance(value, (list, tuple)) else value


def as_lists(value):
    """The value with a list for each tuple, however deep."""
    return [as_lists(part) for part in value] if isinstance(value, (list, tuple)) else value
