"""INTEGERS, COUNTS and SIZES, and what else all files ask of plain values."""

from suretexts.errors import InvalidSize


def is_integer(value):
    """Whether any value is an INTEGER."""
    return isinstance(value, int) and not isinstance(value, bool)


def is_count(value):
    """Whether any value is a COUNT."""
    return is_integer(value) and value >= 0


def is_between(value, least, most):
    """Whether any value is an INTEGER from least to most."""
    return is_integer(value) and least <= value <= most


def is_below(value, limit):
    """Whether any value is a COUNT below the limit."""
    return is_count(value) and value < limit


def is_size(value):
    """Whether any value is a SIZE."""
    return is_between(value, 2, 8)


def is_listed(value):
    """Whether any value is a list, or a tuple in the place of one."""
    return isinstance(value, (list, tuple))


def is_letter(sign):
    """Whether a sign is a letter."""
    return "a" <= sign <= "z"


def is_digit(sign):
    """Whether a sign is a decimal digit."""
    return "0" <= sign <= "9"


def count_of(signs, most):
    """The COUNT that a string is as decimal digits, at most so many and none needless, or None."""
    if not is_between(len(signs), 1, most) or (signs[0] == "0" and signs != "0"):
        return None
    return int(signs) if all([is_digit(sign) for sign in signs]) else None


def need_size(size):
    if not is_size(size):
        raise InvalidSize(size)
