"""Point [2]: INTEGERS and COUNTS; point [5]: SIZES."""

import unittest

from suretexts.basics import is_count, is_integer, is_size
from tests.support import HUGE, LISTS, ODD, STRINGS


class Basics(unittest.TestCase):
    def test_integers(self):
        for value in (0, 1, -1, 2, 8, HUGE, -HUGE):
            self.assertIs(is_integer(value), True)
        for value in ODD + STRINGS + LISTS + ["1", (1,)]:
            self.assertIs(is_integer(value), False)

    def test_counts(self):
        for value in (0, 1, 2, HUGE):
            self.assertIs(is_count(value), True)
        for value in ODD + STRINGS + LISTS + [-1, -HUGE, "0"]:
            self.assertIs(is_count(value), False)

    def test_sizes(self):
        self.assertEqual([value for value in range(-20, 20) if is_size(value)], [2, 3, 4, 5, 6, 7, 8])
        for value in ODD + STRINGS + LISTS + [1, 9, -2, HUGE, -HUGE, "2", [2]]:
            self.assertIs(is_size(value), False)

    def test_by_name(self):
        self.assertEqual([is_integer(value=1), is_count(value=-1), is_size(value=2)], [True, False, True])
