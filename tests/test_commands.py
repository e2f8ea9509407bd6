"""Points [9b1] to [9b4]: names, and which strings are commands."""

import re
import unittest

from suretexts.commands import is_command, is_deed, is_name
from suretexts.errors import BadText
from suretexts.readers import lot_of
from tests.support import LISTS, NUMBERS, ODD
from tests.test_lots import TEXTS

NAME = "[a-z][a-z0-9]{0,7}"
COUNT = "(?:0|[1-9][0-9]{0,5})"
TEXT = "(?:-|[a-z]{1,400})"
WORD = "[a-z]{1,400}"
LIST = f"{COUNT}(?:,{COUNT}){{0,59}}"
LINES = r"[^\n]+"
DEEDS = [
    f"lot {NAME} {COUNT}", f"read {NAME} {LINES}", f"add {NAME} {COUNT} {TEXT}", f"take {NAME} {COUNT} {TEXT}",
    f"both {NAME} {NAME} {NAME}", f"copy {NAME} {NAME}", f"drop {NAME}",
    f"claim {NAME} (?:certain|doubtful) {NAME} {COUNT} {WORD}", f"claim {NAME} (?:sure|loose) {NAME} {COUNT} {LIST}",
    f"claim {NAME} (?:cheap|dear) {NAME} {COUNT} {COUNT}", f"claim {NAME} (?:close|parted) {NAME} {COUNT}",
    f"forget {NAME}"]
OTHERS = [
    "undo", "redo", f"state {NAME}", "states", f"claimed {NAME}", "names", f"show {NAME}", f"same {NAME} {NAME}",
    f"times {NAME} {TEXT}", f"pieces {NAME}", f"solid {NAME} {COUNT}", f"contigs {NAME} {COUNT}",
    f"shortest {NAME} {COUNT}",
    f"rings {NAME} {COUNT}", f"explains {NAME} {COUNT} {WORD}", f"again {NAME}", f"normal {WORD}", f"column {WORD}",
    f"ring {WORD}"]

SOME_DEEDS = [
    "lot p 2", "lot p2345678 0", "lot p 999999", "read p size 2", "read p size 8; read 3 -; read 1200 ab", "add p 2 -",
    "add p 999999 abc", "add p 0 a", "take p 1 " + "a" * 400, "both q p p", "both p p p", "copy q p", "drop p",
    "claim k certain p 1 bac", "claim k doubtful p 0 " + "b" * 400, "claim k sure p 1 0",
    "claim k loose p 1 0,12,999999",
    "claim k sure p 1 " + ",".join(["1"] * 60), "claim k cheap p 1 0", "claim k dear p 1 999999", "claim k close p 1",
    "claim k parted p 12", "forget k", "claim claim sure sure 1 0", "lot lot 2", "drop drop"]
SOME_OTHERS = [
    "undo", "redo", "state k", "states", "claimed k", "names", "show p", "same p p", "times p -", "times p ab",
    "pieces p",
    "solid p 1", "contigs p 0", "shortest p 1", "rings p 1", "explains p 1 ab", "again p", "normal cab", "column a",
    "ring " + "a" * 400]


def makes_a_lot(lines):
    try:
        lot_of(lines.replace("; ", "\n") + "\n")
    except BadText:
        return False
    return True


def plainly(rows, value):
    for row in rows:
        if re.fullmatch(row, value):
            return not value.startswith("read ") or makes_a_lot(value.split(" ", 2)[2])
    return False


class Names(unittest.TestCase):
    def test_names(self):
        for value in ("a", "z", "a1", "abcdefgh", "a2345678", "p0", "p9", "size", "claim"):
            self.assertEqual([value, is_name(value)], [value, True])
        for value in ("", "abcdefghi", "a23456789", "1", "1a", "A", "aB", "a b", " a", "a ", "a-", "-", "a\n", "{",
                      "`", "a_", "a.", "a:", "a/", "a{"):
            self.assertEqual([value, is_name(value), is_name(value=value)], [value, False, False])

    def test_any_value(self):
        for value in ODD + NUMBERS + LISTS + ["", ("a",), ["p"], b"p"]:
            for call in (is_name, is_command, is_deed):
                self.assertIs(call(value), False)
                self.assertIs(call(value=value), False)


class Commands(unittest.TestCase):
    def check(self, value):
        deed = plainly(DEEDS, value)
        told = deed or plainly(OTHERS, value)
        self.assertEqual([value, is_command(value), is_deed(value)], [value, told, deed])

    def test_each(self):
        for value in SOME_DEEDS:
            self.assertEqual([value, is_command(value), is_deed(value)], [value, True, True])
            self.check(value)
        for value in SOME_OTHERS:
            self.assertEqual([value, is_command(value), is_deed(value)], [value, True, False])
            self.check(value)
        self.assertEqual(sorted({value.split(" ")[0] for value in SOME_DEEDS + SOME_OTHERS}),
                         sorted({row.split(" ")[0] for row in DEEDS + OTHERS}))

    def test_a_part_more_and_less(self):
        for value in SOME_DEEDS + SOME_OTHERS:
            parts = value.split(" ")
            for at in range(len(parts)):
                self.check(" ".join(parts[:at] + parts[at + 1:]))
                self.check(" ".join(parts[:at] + ["a"] + parts[at:]))
                self.check(" ".join(parts[:at] + ["1"] + parts[at + 1:]))
                self.check(" ".join(parts[:at] + [""] + parts[at:]))
            for other in (value + " ", " " + value, value + " a", value + " 1", value + "\n", value + ";",
                          value + "; "):
                self.check(other)

    def test_a_sign_changed(self):
        for value in SOME_DEEDS + SOME_OTHERS:
            for at in range(min(len(value), 40)):
                for sign in ("", " ", "a", "A", "0", "-", ",", "\n", ";"):
                    self.check(value[:at] + sign + value[at + 1:])
                    self.check(value[:at] + sign + value[at:])

    def test_numbers(self):
        for number, wanted in (("0", True), ("9", True), ("123456", True), ("1234567", False), ("01", False),
                               ("00", False),
                               ("", False), ("-1", False), ("1a", False), ("+1", False), ("1.0", False),
                               ("1_0", False)):
            for value in (f"lot p {number}", f"add p {number} ab", f"take p {number} -",
                          f"claim k certain p {number} ab",
                          f"claim k dear p 1 {number}", f"claim k sure p 1 {number}", f"claim k close p {number}",
                          f"claim k loose p 1 0,{number},3", f"solid p {number}", f"explains p {number} ab"):
                self.assertEqual([value, is_command(value)], [value, wanted])

    def test_lists(self):
        for numbers, wanted in (("0", True), ("1,2", True), (",".join(["7"] * 60), True), (",".join(["7"] * 61), False),
                                (",", False), ("1,", False), (",1", False), ("1,,2", False), ("1, 2", False),
                                ("1;2", False),
                                ("[1]", False), ("a", False), ("1,a", False), ("1,02", False), ("1,1234567", False)):
            self.assertEqual([numbers, is_command(f"claim k sure p 1 {numbers}")], [numbers, wanted])

    def test_texts_and_words(self):
        for part, text, word in (("-", True, False), ("a", True, True), ("a" * 400, True, True),
                                 ("a" * 401, False, False),
                                 ("", False, False), ("A", False, False), ("a1", False, False), ("--", False, False),
                                 ("a-", False, False), ("1", False, False)):
            for value in (f"add p 1 {part}", f"take p 1 {part}", f"times p {part}"):
                self.assertEqual([value, is_command(value)], [value, text])
            for value in (f"claim k certain p 1 {part}", f"claim k doubtful p 1 {part}", f"explains p 1 {part}",
                          f"normal {part}", f"column {part}", f"ring {part}"):
                self.assertEqual([value, is_command(value)], [value, word])

    def test_lines(self):
        most = "; ".join(["size 2"] + [f"read 1 {text}" for text in sorted(TEXTS)])
        for lines, wanted in (
                ("size 2", True), ("size 8; read 1200 -", True), ("size 2; read 1 -; read 2 a; read 1 b", True),
                (most, True),
                (most + "; read 1 zz", False), ("size 1", False), ("size 9", False), ("size 02", False),
                ("size 2;", False),
                ("size 2; ", False), ("size 2;read 1 a", False), ("size 2 ; read 1 a", False),
                ("size 2;  read 1 a", False),
                ("read 1 a", False), ("size 2; read 0 a", False), ("size 2; read 1201 a", False),
                ("size 2; read 1 b; read 1 a", False),
                ("size 2; read 1 a; read 1 a", False), ("size 2; read 1 a; read 1 -", False), ("size 2; read 1", False),
                ("size 2; read 1 A", False), ("size 2; size 2", False), ("size 2\nread 1 a", False),
                ("size 2\n", False),
                ("size 2; read 1 a\n", False), ("size 2; read 1 a\nread 1 b", False),
                ("size 2; read 1 a;\nread 1 b", False),
                ("", False), ("ab", False), ("size", False), ("size 2 read 1 a", False)):
            self.assertEqual([lines, is_deed(f"read p {lines}"), is_command(f"read p {lines}")],
                             [lines, wanted, wanted])
        self.assertEqual([is_command("read"), is_command("read p"), is_command("read p "),
                          is_command("read P size 2")], [False] * 4)

    def test_words_of_claims(self):
        for value in ("claim k", "claim", "claim k certain", "claim k plain p 1", "claim k certain p 1",
                      "claim k close p",
                      "claim k close p 1 a", "claim k sure p 1 a", "claim k certain p 1 0", "claim k Close p 1",
                      "claim close p 1", "claim k cheap p 1", "claim k cheap p 1 1,2", "claim k new p 1",
                      "claim k p 1 bac"):
            self.assertEqual([value, is_command(value)], [value, False])

    def test_no_commands(self):
        for value in ("", " ", "-", "undo 1", "Undo", "undo ", " undo", "fresh", "said", "help", "do undo", "undo\n",
                      "undo;redo"):
            self.assertEqual([value, is_command(value), is_deed(value)], [value, False, False])
