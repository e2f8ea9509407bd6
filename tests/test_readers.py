"""Point [1b4]: the texts of lots."""

import unittest

from suretexts.errors import BadText, InvalidLot
from suretexts.lots import Lot, both_lots
from suretexts.readers import lot_of, lot_text
from tests.support import LISTS, NUMBERS, ODD, WRONG_LOTS, check_fails, check_parameters, words

SIXTY = sorted(words("abcd", 3)[:60])

WRONG_FIRST_LINES = [
    "", "size", "size ", "size 1", "size 9", "size 0", "size 10", "size 02", "size 002", "size -2", "size +2",
    "size  2", " size 2", "size 2 ", "size 2 3", "size2", "Size 2", "size x", "size 2x", "size -", "read 1 ab",
    "2", "size " + "2" * 5000, "size " + "0" * 5000 + "2"]

WRONG_FURTHER_LINES = [
    "", " ", "read", "read 3", "read 3 ", "read  3 b", "read 3  b", " read 3 b", "read 3 b ", "read 3 b c", "read b 3",
    "read 0 b", "read 00 b", "read 03 b", "read 1201 b", "read 12000 b", "read -1 b", "read +1 b", "read x b",
    "read 1x b", "read - b", "Read 3 b", "read3 b", "read 3 B", "read 3 b1", "read 3 b-", "read 3 --", "read 3 -b",
    "read 3 " + "b" * 401, "size 2", "read " + "9" * 5000 + " b", "read " + "0" * 5000 + "1 b"]


def longest_lot():
    texts = ["a" * (340 + at) for at in range(1, 61)]
    lot = Lot(8, [(text, 20) for text in texts])
    for _ in range(2):
        lot = both_lots(lot, lot)
    return lot


class Texts(unittest.TestCase):
    def test_lines(self):
        self.assertEqual(lot_text(Lot(8, [])), "size 8\n")
        self.assertEqual(lot_text(Lot(2, [("", 20), ("ba", 1), ("a", 9), ("", 1)])),
                         "size 2\nread 21 -\nread 9 a\nread 1 ba\n")

    def test_there_and_back(self):
        most = Lot(2, [("ab", 20)] * 60)
        for lot in [Lot(size, []) for size in range(2, 9)] + [
                Lot(2, [("", 1)]), Lot(3, [("abc", 10), ("ab", 20)]), most,
                both_lots(most, Lot(2, [("", 1), ("b", 7)])), Lot(4, [(text, 3) for text in SIXTY]), longest_lot()]:
            again = lot_of(lot_text(lot))
            self.assertEqual(again, lot)
            self.assertEqual(lot_text(again), lot_text(lot))

    def test_bounds(self):
        self.assertEqual(lot_of("size 2\nread 1200 -\nread 1 " + "a" * 400 + "\n").readings(),
                         [("", 1200), ("a" * 400, 1)])
        for times in (1, 9, 10, 19, 99, 100, 109, 190, 901, 999, 1000, 1199):
            self.assertEqual(lot_of(f"size 2\nread {times} ab\n").readings(), [("ab", times)])
        self.assertEqual(len(lot_of("size 2\n" + "".join(f"read 20 {text}\n" for text in SIXTY)).readings()), 60)

    def test_parameters(self):
        check_parameters(self, lot_text, [("lot", Lot(2, [("ab", 2)]), WRONG_LOTS, InvalidLot)])
        self.assertEqual(lot_of(text="size 2\n"), Lot(2, []))


class WrongLines(unittest.TestCase):
    def check(self, text, line):
        with self.subTest(text=text[:80]):
            check_fails(self, BadText, {"line": line}, lot_of, text)
            check_fails(self, BadText, {"line": line}, lot_of, text=text)

    def test_no_strings(self):
        for value in ODD + NUMBERS + LISTS + [b"size 2\n", ["size 2\n"]]:
            with self.subTest(value=value):
                check_fails(self, BadText, {"line": None}, lot_of, value)

    def test_empty(self):
        self.check("", 0)

    def test_first_lines(self):
        for line in WRONG_FIRST_LINES:
            self.check(line + "\n", 0)
            # Whatever follows.
            self.check(line + "\nread 3 b\n", 0)
            self.check(line + "\nnonsense", 0)

    def test_further_lines(self):
        for line in WRONG_FURTHER_LINES:
            self.check("size 2\n" + line + "\n", 1)
            self.check("size 2\nread 1 a\n" + line + "\n", 2)
            self.check("size 2\nread 1 a\n" + line + "\nread 2 a\nread 2", 2)

    def test_last_line_feed(self):
        for text, line in [("size 2", 0), ("size", 0), (" ", 0), ("size 2\nread 3 ab", 1), ("size 2\n ", 1),
                           ("size 2\nread 3 ab\nread 3 b", 2), ("size 2\nread 3 ab\nx", 2)]:
            self.check(text, line)

    def test_each_line_feed_counts(self):
        self.check("\n", 0)
        self.check("\nsize 2\n", 0)
        self.check("size 2\n\n", 1)
        self.check("size 2\n\nread 3 ab\n", 1)
        self.check("size 2\nread 3 ab\n\n", 2)

    def test_sequence_of_texts(self):
        for first, other in [("ab", "ab"), ("b", "a"), ("ab", "a"), ("a", "-"), ("-", "-"), ("b", "ab")]:
            self.check(f"size 2\nread 3 {first}\nread 2 {other}\n", 2)
            self.check(f"size 2\nread 3 {first}\nread 2 {other}\nread 0 c\n", 2)
        self.check("size 2\nread 1 a\nread 1 c\nread 1 b\nread 1 b\n", 3)
        self.assertEqual(lot_of("size 2\nread 3 -\nread 2 a\nread 1 ab\n").readings(), [("", 3), ("a", 2), ("ab", 1)])

    def test_a_61st_reading(self):
        text = "size 2\n" + "".join(f"read 20 {text}\n" for text in SIXTY)
        self.check(text + "read 1 zzz\n", 61)
        self.check(text + "read 1 zzz\nread 1 zzzz\n", 61)
        self.check(text + "read 1 zzz", 61)
        self.assertEqual(lot_text(lot_of(text)), text)

    def test_returned_texts_with_a_line_changed(self):
        lines = lot_text(longest_lot()).split("\n")[:-1]
        self.assertEqual([len(lines), lines[1]], [61, "read 80 " + "a" * 341])
        for at in range(61):
            less = lines[:at] + lines[at + 1:]
            twice = lines[:at] + [lines[at]] + lines[at:]
            if at == 0:
                self.check("\n".join(less) + "\n", 0)
            else:
                self.assertEqual(len(lot_of("\n".join(less) + "\n").readings()), 59)
            self.check("\n".join(twice) + "\n", at + 1)
