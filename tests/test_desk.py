"""Points [9b1] to [9b4]: a desk, its deeds and its answers."""

import unittest

from suretexts.desk import Desk
from suretexts.errors import (
    CommandFailed, FewTimes, InvalidClaim, InvalidCommand, InvalidCounts, InvalidDeeds, InvalidLeast, InvalidPieces,
    InvalidSize, InvalidTexts, InvalidTimes, LabelTaken, NameTaken, NoRing, NotClose, NothingToRedo, NothingToUndo,
    NotRead,
    TooMany, UnknownLabel, UnknownName, UnlikeSizes)
from suretexts.lots import Lot
from suretexts.pieces import PieceWeb
from suretexts.rings import normal
from suretexts.webs import Web
from tests import book
from tests.support import HUGE, LISTS, NUMBERS, ODD, STRINGS, check_fails, check_parameters
from tests.test_commands import SOME_DEEDS, SOME_OTHERS
from tests.test_keeper import Steps
from tests.test_lots import TEXTS
from tests.test_mending import all_pairs
from tests.test_pieced import SIXTY

WRONG_COMMANDS = ODD + NUMBERS + STRINGS + LISTS + [
    "undo ", " undo", "lot p", "lot p 02", "lot p 1234567", "lot P 2", "lot p2345678q 2", "add p 1  a", "add p 1 a ",
    "add p 1",
    "read p ab", "read p size 2\n", "claim k close p", "claim k sure p 1 " + ",".join(["0"] * 61), "help", ["undo"],
    ("undo",)]


def desk_with(*lines):
    desk = Desk()
    for line in lines:
        desk.do(line)
    return desk


def told_of(desk):
    """All that a desk tells, but for its papers."""
    return [desk.names, desk.labels, [desk[name] for name in desk.names],
            [desk.claim_of(label) for label in desk.labels],
            desk.do("states"), desk.lines(), len(desk), [desk.do(f"claimed {label}") for label in desk.labels],
            [desk.fits(label) for label in desk.labels]]


def held_by(desk):
    """All of a desk: what it tells, and what its copy tells of what can be taken back and done again."""
    told, other = [told_of(desk)], desk.copy()
    while True:
        try:
            told.append((other.do("redo"), told_of(other)))
        except NothingToRedo:
            break
    while len(other):
        told.append((other.do("undo"), told_of(other)))
    return told


class Begin(unittest.TestCase):
    def test_nothing_kept(self):
        desk = Desk()
        self.assertEqual([desk.names, desk.labels, len(desk), desk.lines()], [[], [], 0, []])
        self.assertEqual([desk.do("names"), desk.do("states"), desk("names")], ["-", "-", "-"])
        check_fails(self, NothingToUndo, {}, desk.do, "undo")
        check_fails(self, NothingToRedo, {}, desk.do, "redo")
        check_fails(self, NothingToUndo, {}, desk, "undo")

    def test_names_in_it(self):
        desk = desk_with("lot p 2", "add p 3 ab")
        self.assertEqual([desk["p"], "p" in desk, "q" in desk, "k" in desk, "P" in desk],
                         [Lot(2, [("ab", 3)]), True] + [False] * 3)
        for value in ODD + NUMBERS + LISTS + ["", "q", "pp", ["p"], ("p",), b"p"]:
            self.assertIs(value in desk, False)
            check_fails(self, UnknownName, {"value": value}, lambda: desk[value])
            for call in (desk.claim_of, desk.fits):
                check_fails(self, UnknownLabel, {"value": value}, call, value)
                check_fails(self, UnknownLabel, {"value": value}, call, label=value)
            check_fails(self, UnknownLabel, {"value": value}, desk.attach, value, None)
        for value in ("p", "q", [], None):
            check_fails(self, UnknownLabel, {"value": value}, desk.claim_of, value)

    def test_not_iterated_over(self):
        with self.assertRaises(TypeError):
            list(desk_with("lot p 2"))

    def test_call(self):
        desk = Desk()
        self.assertEqual([desk("lot p 2"), desk(command="add p 1 ab"), desk.do(command="show p"), desk("show p")],
                         ["-", "-", "size 2; read 1 ab", "size 2; read 1 ab"])


class Deeds(unittest.TestCase):
    def test_lots(self):
        desk = Desk()
        for line, name, lot in (
                ("lot p 2", "p", Lot(2, [])), ("add p 2 abac", "p", Lot(2, [("abac", 2)])),
                ("add p 20 -", "p", Lot(2, [("abac", 2), ("", 20)])),
                ("take p 1 abac", "p", Lot(2, [("abac", 1), ("", 20)])),
                ("copy q p", "q", Lot(2, [("abac", 1), ("", 20)])),
                ("take p 20 -", "p", Lot(2, [("abac", 1)])), ("both r p q", "r", Lot(2, [("abac", 2), ("", 20)])),
                ("both s r r", "s", Lot(2, [("abac", 4), ("", 20), ("", 20)])),
                ("read t size 3; read 1 -; read 7 ab", "t", Lot(3, [("ab", 7), ("", 1)])),
                ("read u size 8", "u", Lot(8, []))):
            self.assertEqual(desk.do(line), "-")
            self.assertEqual(desk[name], lot)
        self.assertEqual([desk.names, len(desk)], [["p", "q", "r", "s", "t", "u"], 10])
        self.assertEqual([desk.do("drop q"), desk.names, "q" in desk, desk["r"]],
                         ["-", ["p", "r", "s", "t", "u"], False, Lot(2, [("abac", 2), ("", 20)])])

    def test_claims(self):
        desk = desk_with("lot p 2", "add p 1 abaca", "add p 2 ab")
        web = PieceWeb(["ab", "ac", "ba", "ca"]).web()
        for words, claim, state in (
                ("certain p 1 bac", ("certain", ["ab", "ac", "ba", "ca"], "bac"), "true"),
                ("doubtful p 1 bac", ("doubtful", ["ab", "ac", "ba", "ca"], "bac"), "false"),
                ("sure p 1 0,2,1,3", ("sure", web, [0, 2, 1, 3]), "true"),
                ("loose p 1 2,0", ("loose", web, [2, 0]), "true"),
                ("cheap p 1 3", ("cheap", web, [1] * 4, 3), "false"),
                ("cheap p 1 4", ("cheap", web, [1] * 4, 4), "true"),
                ("dear p 1 3", ("dear", web, [1] * 4, 3), "true"), ("dear p 1 0", ("dear", web, [1] * 4, 0), "true"),
                ("close p 1", ("close", web), "true"), ("parted p 1", ("parted", web), "false"),
                ("close p 3", ("close", Web(2, [(0, 1)])), "false"),
                ("parted p 3", ("parted", Web(2, [(0, 1)])), "true")):
            self.assertEqual(desk.do(f"claim k {words}"), f"k {state}")
            self.assertEqual([desk.claim_of("k"), desk.do("state k"), desk.do("states"), desk.do("claimed k"),
                              desk.labels],
                             [claim, state, f"k {state}", words, ["k"]])
            self.assertEqual([desk.do("forget k"), desk.labels, desk.do("states")], ["-", [], "-"])
            check_fails(self, UnknownLabel, {"value": "k"}, desk.do, "state k")


class Changes(unittest.TestCase):
    def test_states_change(self):
        desk = desk_with("lot p 2", "add p 1 abaca", "lot q 2")
        self.assertEqual([desk.do(line) for line in (
            "claim k certain p 1 bac", "claim b doubtful p 1 bab", "claim c close p 1", "claim d dear p 1 3",
            "states")],
            ["k true", "b true", "c true", "d true", "b true, c true, d true, k true"])
        # Another lot says nothing; one more piece is a way out without a way back.
        self.assertEqual([desk.do(line) for line in ("add q 1 ab", "drop q", "add p 1 az")],
                         ["-", "-", "b gone, c false, d gone, k gone"])
        self.assertEqual([desk.do(line) for line in ("add p 1 zz", "add p 1 za", "states")],
                         ["-", "b true, c true, d true, k false", "b true, c true, d true, k false"])
        self.assertEqual([desk.do(line) for line in ("drop p", "states", "lot p 3", "add p 1 abacab", "states")],
                         ["b gone, c gone, d gone, k gone", "b gone, c gone, d gone, k gone", "-",
                          "b true, c true, d true, k true", "b true, c true, d true, k true"])
        self.assertEqual(desk.claim_of("b"), ("doubtful", ["aba", "aca", "bac", "cab"], "bab"))

    def test_by_undo_and_redo(self):
        desk = desk_with("lot p 2", "add p 1 aba", "claim c close p 1", "claim m cheap p 1 2", "add p 1 ac")
        self.assertEqual([desk.do("states"), desk.do("undo"), desk.do("states"), desk.do("redo"), desk.do("states")],
                         ["c false, m gone", "add p 1 ac", "c true, m true", "add p 1 ac", "c false, m gone"])
        self.assertEqual([desk.do("undo"), desk.do("undo"), desk.do("states"), desk.do("undo"), desk.do("states")],
                         ["add p 1 ac", "claim m cheap p 1 2", "c true", "claim c close p 1", "-"])
        self.assertEqual([desk.do("redo"), desk.do("redo"), desk.do("states"), desk.lines()],
                         ["claim c close p 1", "claim m cheap p 1 2", "c true, m true",
                          ["lot p 2", "add p 1 aba", "claim c close p 1", "claim m cheap p 1 2"]])

    def test_gone(self):
        desk = desk_with("read p size 2; read 2 aba", "claim c close p 2", "claim k certain p 2 ab",
                         "claim s sure p 2 1,0",
                         "claim m cheap p 2 1")
        self.assertEqual(desk.do("states"), "c true, k true, m false, s true")
        # Nothing solid; no walk any more; a text with fewer letters than a piece.
        self.assertEqual([desk.do("take p 1 aba"), desk.claim_of("c"), desk.do("states")],
                         ["c gone, k gone, m gone, s gone", None, "c gone, k gone, m gone, s gone"])
        self.assertEqual([desk.do("add p 1 aa"), desk.do("add p 1 aa"), desk.claim_of("k"), desk.claim_of("s")],
                         ["-", "c true, k false, m true", ("certain", ["aa"], "ab"), None])
        self.assertEqual([desk.do(line) for line in ("drop p", "read p size 3; read 2 abab", "undo", "lot p 2",
                                                     "states")],
                         ["c gone, k gone, m gone", "c true, m false, s true", "read p size 3; read 2 abab", "-",
                          "c gone, k gone, m gone, s gone"])

    def test_noted_again(self):
        desk = desk_with("read p size 2; read 1 aba", "claim k close p 1")
        self.assertEqual([desk.do("forget k"), desk.do("claim k parted p 1"), desk.do("claimed k"), desk.do("undo"),
                          desk.do("undo"),
                          desk.do("claimed k"), desk.do("state k")],
                         ["-", "k false", "parted p 1", "claim k parted p 1", "forget k", "close p 1", "true"])

    def test_names_do_not_hang_together(self):
        desk = desk_with("lot p 2", "add p 1 ab", "copy q p", "both r p q", "add p 1 ba", "drop p")
        self.assertEqual([desk["q"], desk["r"]], [Lot(2, [("ab", 1)]), Lot(2, [("ab", 2)])])
        self.assertEqual([desk.do("add q 3 c"), desk["r"], desk.do("show q")],
                         ["-", Lot(2, [("ab", 2)]), "size 2; read 1 ab; read 3 c"])


class Answers(unittest.TestCase):
    def test_each(self):
        desk = desk_with("read p size 2; read 2 -; read 1 abac; read 1 ca", "copy q p", "lot r 3",
                         "read s size 2; read 3 abab; read 1 xyx",
                         "read t size 2; read 1 abc", "add q 1 ca")
        for command, answer in (
                ("names", "p q r s t"), ("show p", "size 2; read 2 -; read 1 abac; read 1 ca"), ("show r", "size 3"),
                ("same p q", "no"), ("same p p", "yes"), ("same r t", "no"), ("times p -", "2"), ("times p abac", "1"),
                ("times p zz", "0"),
                ("pieces p", "ab 1, ac 1, ba 1, ca 1"), ("pieces q", "ab 1, ac 1, ba 1, ca 2"), ("pieces r", "-"),
                ("pieces s", "ab 6, ba 3, xy 1, yx 1"),
                ("solid p 1", "ab ac ba ca"), ("solid q 2", "ca"), ("solid q 3", "-"), ("solid r 1", "-"),
                ("solid s 4", "ab"),
                ("contigs p 1", "abaca acaba"), ("contigs s 1", "@ab @xy"), ("contigs s 3", "@ab"),
                ("contigs t 1", "-"),
                ("shortest p 1", "4"), ("shortest s 3", "2"), ("rings p 1", "1"), ("rings q 1", "0"),
                ("rings t 1", "0"),
                ("explains p 1 abac", "yes"), ("explains p 1 caba", "yes"), ("explains p 1 ab", "no"),
                ("explains s 3 abab", "yes"),
                ("again p", "a"), ("again s", "ab"), ("again t", "-"), ("normal cab", "abc"),
                ("normal " + "ba" * 200, "ab" * 200),
                ("column abac", "cbaa"), ("column a", "a"), ("ring cbaa", "abac"), ("ring bbaa", "abab")):
            self.assertEqual([command, desk.do(command), desk(command)], [command, answer, answer])
        self.assertEqual(len(desk), 6)

    def test_many_rings(self):
        desk = desk_with("read p size 2; read 12 aa; read 2 ab; read 2 ba; read 8 bb")
        # Of 13 times 9 ways to share the loops of both places between two goes, one is alike turned by half.
        self.assertEqual(desk.do("rings p 1"), "59")
        desk = desk_with("read p size 2; read 3 -; read 1 ab; read 1 ba")
        self.assertEqual([desk.do("rings p 1"), desk.do("shortest p 1"), desk.do("contigs p 1"), desk.do("again p")],
                         ["1", "2", "@ab", "a"])

    def test_errors_of_what_tells(self):
        desk = desk_with("lot e 2", "read o size 2; read 1 ab", "read m size 2; read 13 ab; read 1 ba", "lot l 2",
                         "lot s 2")
        for text in TEXTS[:21]:
            desk.do(f"add l 1 {text}")
        desk.do("add s 1 " + "a" * 400)
        for command, error, attributes in (
                ("solid o 0", InvalidLeast, {"value": 0}), ("contigs o 0", InvalidLeast, {"value": 0}),
                ("rings e 0", InvalidLeast, {"value": 0}),
                ("shortest o 0", InvalidLeast, {"value": 0}), ("explains e 0 ab", InvalidLeast, {"value": 0}),
                ("contigs e 1", InvalidPieces, {"value": []}), ("contigs o 2", InvalidPieces, {"value": []}),
                ("shortest e 1", InvalidPieces, {"value": []}), ("rings e 1", InvalidPieces, {"value": []}),
                ("explains e 1 ab", InvalidPieces, {"value": []}), ("shortest o 1", NotClose, {}),
                ("rings m 1", InvalidCounts, {"value": [13, 1]}), ("again e", InvalidTexts, {"value": []}),
                ("again l", InvalidTexts, {"value": sorted(TEXTS[:21])}), ("ring ab", NoRing, {}),
                ("state k", UnknownLabel, {"value": "k"}), ("claimed p", UnknownLabel, {"value": "p"}),
                ("show p", UnknownName, {"value": "p"}),
                ("same e p", UnknownName, {"value": "p"}), ("same q p", UnknownName, {"value": "q"}),
                ("solid q 0", UnknownName, {"value": "q"})):
            held = held_by(desk)
            check_fails(self, error, attributes, desk.do, command)
            check_fails(self, error, attributes, desk, command)
            self.assertEqual(held_by(desk), held)
        self.assertEqual(desk.do("again s"), "a" * 399)
        desk.do("add s 1 b")
        check_fails(self, InvalidTexts, {"value": ["a" * 400, "b"]}, desk.do, "again s")

    def test_many_pieces(self):
        desk = desk_with("lot p 2", f"add p 1 {all_pairs()}", "lot q 4", f"add q 1 {SIXTY + SIXTY[:3]}",
                         "claim c close q 1", "add q 1 zzzz")
        self.assertEqual([desk.do("state c"), desk.do("solid p 2"), len(desk.do("solid p 1"))],
                         ["gone", "-", 81 * 3 - 1])
        for name in ("p", "q"):
            solid = desk[name].solid(1)
            for command in (f"contigs {name} 1", f"claim k close {name} 1", f"shortest {name} 1", f"rings {name} 1",
                            f"explains {name} 1 ab"):
                check_fails(self, InvalidPieces, {"value": solid}, desk.do, command)
        self.assertEqual([desk.do("undo"), desk.do("state c"), desk.do("shortest q 1"), desk.do("contigs q 1")],
                         ["add q 1 zzzz", "true", "60", "@" + normal(SIXTY)])


class Failing(unittest.TestCase):
    def check(self, desk, line, error, attributes):
        held = held_by(desk)
        check_fails(self, error, attributes, desk.do, line)
        self.assertEqual(held_by(desk), held)

    def test_in_sequence(self):
        desk = desk_with("lot p 2", "read q size 3; read 1 abcab", "add p 2 aba", "claim k close p 1", "add p 1 c")
        desk.do("undo")
        for line, error, attributes in (
                ("lot p 9", NameTaken, {"name": "p"}), ("lot k 9", InvalidSize, {"value": 9}),
                ("lot r 1", InvalidSize, {"value": 1}),
                ("read p size 2", NameTaken, {"name": "p"}), ("both p x y", NameTaken, {"name": "p"}),
                ("both r x y", UnknownName, {"value": "x"}),
                ("both r p y", UnknownName, {"value": "y"}), ("both r r p", UnknownName, {"value": "r"}),
                ("both r p q", UnlikeSizes, {}),
                ("copy p x", NameTaken, {"name": "p"}), ("copy r r", UnknownName, {"value": "r"}),
                ("drop k", UnknownName, {"value": "k"}),
                ("add k 21 a", UnknownName, {"value": "k"}), ("add p 21 a", InvalidTimes, {"value": 21}),
                ("add p 0 a", InvalidTimes, {"value": 0}),
                ("take p 21 zz", InvalidTimes, {"value": 21}), ("take p 1 zz", NotRead, {"text": "zz"}),
                ("take p 1 -", NotRead, {"text": ""}),
                ("take p 3 aba", FewTimes, {}), ("claim k close x 0", LabelTaken, {"label": "k"}),
                ("claim m close x 0", UnknownName, {"value": "x"}),
                ("claim m close p 0", InvalidLeast, {"value": 0}), ("claim m close p 3", InvalidPieces, {"value": []}),
                ("claim p sure p 1 0,0", InvalidClaim, {"value": ("sure", desk.claim_of("k")[1], [0, 0])}),
                ("claim m loose p 1 2", InvalidClaim, {"value": ("loose", desk.claim_of("k")[1], [2])}),
                ("claim m certain p 1 a", InvalidClaim, {"value": ("certain", ["ab", "ba"], "a")}),
                ("claim m doubtful q 1 ab", InvalidClaim, {"value": ("doubtful", ["abc", "bca", "cab"], "ab")}),
                ("forget p", UnknownLabel, {"value": "p"}), ("state p", UnknownLabel, {"value": "p"})):
            self.check(desk, line, error, attributes)
        self.assertEqual(desk.do("redo"), "add p 1 c")

    def test_claims_of_webs_that_are_not_close(self):
        desk = desk_with("read p size 2; read 1 abc")
        pieces = ["ab", "bc"]
        web = PieceWeb(pieces).web()
        for words, claim in (("sure p 1 0,1", ("sure", web, [0, 1])), ("cheap p 1 9", ("cheap", web, [1, 1], 9)),
                             ("dear p 1 9", ("dear", web, [1, 1], 9)), ("certain p 1 abc", ("certain", pieces, "abc"))):
            self.check(desk, f"claim k {words}", InvalidClaim, {"value": claim})
        self.assertEqual([desk.do("claim k close p 1"), desk.do("claim m parted p 1")], ["k false", "m true"])

    def test_eight_names(self):
        desk = desk_with(*[f"lot p{at} 2" for at in range(8)], "add p0 1 aba")
        for line, error, attributes in (
                ("lot q 2", TooMany, {"what": "names", "limit": 8}), ("lot q 9", InvalidSize, {"value": 9}),
                ("copy q p1", TooMany, {"what": "names", "limit": 8}),
                ("both q p1 p2", TooMany, {"what": "names", "limit": 8}),
                ("read q size 2", TooMany, {"what": "names", "limit": 8}), ("lot p0 2", NameTaken, {"name": "p0"})):
            self.check(desk, line, error, attributes)
        self.assertEqual([desk.do("add p7 1 a"), desk.do("drop p0"), desk.do("lot q 2"), len(desk.names)],
                         ["-", "-", "-", 8])

    def test_eight_labels(self):
        desk = desk_with("read p size 2; read 1 aba", *[f"claim k{at} close p 1" for at in range(8)])
        for line, error, attributes in (
                ("claim m close p 1", TooMany, {"what": "labels", "limit": 8}),
                ("claim m close p 2", InvalidPieces, {"value": []}),
                ("claim m sure p 1 0,0", InvalidClaim, {"value": ("sure", desk.claim_of("k0")[1], [0, 0])}),
                ("claim k0 close p 1", LabelTaken, {"label": "k0"})):
            self.check(desk, line, error, attributes)
        self.assertEqual([desk.do("forget k3"), desk.do("claim m parted p 1"), len(desk.labels)], ["-", "m false", 8])

    def test_200_deeds(self):
        desk = desk_with("lot p 2", *["add p 1 a", "take p 1 a"] * 99, "add p 1 aba")
        self.assertEqual([len(desk), len(desk.lines())], [200, 200])
        for at, (line, error, attributes) in enumerate((
                ("add p 1 b", TooMany, {"what": "deeds", "limit": 200}),
                ("lot q 2", TooMany, {"what": "deeds", "limit": 200}),
                ("claim k close p 1", TooMany, {"what": "deeds", "limit": 200}),
                ("drop p", TooMany, {"what": "deeds", "limit": 200}),
                ("take p 1 b", NotRead, {"text": "b"}), ("lot p 2", NameTaken, {"name": "p"}),
                ("forget k", UnknownLabel, {"value": "k"}))):
            if at:
                check_fails(self, error, attributes, desk.do, line)
            else:
                self.check(desk, line, error, attributes)
        self.assertEqual([desk.do("show p"), desk.do("undo"), desk.do("add p 1 b"), len(desk)],
                         ["size 2; read 1 aba", "add p 1 aba", "-", 200])
        self.assertEqual([desk.do("undo"), desk.do("redo"), len(desk)], ["add p 1 b", "add p 1 b", 200])

    def test_limits_of_lots(self):
        desk = desk_with("lot p 2", *[f"add p 1 {text}" for text in TEXTS])
        self.check(desk, "add p 1 zzzz", TooMany, {"what": "readings", "limit": 60})
        desk = desk_with("read p size 2; read 1190 ab", "read q size 2; read 11 ab", "lot r 2")
        for line in ("add p 11 ab", "both s p q"):
            check_fails(self, TooMany, {"what": "times", "limit": 1200}, desk.do, line)
        self.assertEqual([desk.do("add p 10 ab"), desk.do("times p ab")], ["-", "1200"])

    def test_no_commands(self):
        desk = desk_with("lot p 2")
        for call in (desk.do, desk):
            check_parameters(self, call, [("command", "show p", WRONG_COMMANDS, InvalidCommand)])
        for value in WRONG_COMMANDS:
            self.check(desk, value, InvalidCommand, {"value": value})


class UndoAndRedo(unittest.TestCase):
    def test_lines(self):
        desk = desk_with("lot p 2", "add p 1 a", "add p 1 b")
        self.assertEqual([desk.do("undo"), desk.do("undo"), desk.lines(), len(desk)],
                         ["add p 1 b", "add p 1 a", ["lot p 2"], 1])
        self.assertEqual([desk.do("redo"), desk.do("show p"), desk.do("redo"), desk.lines()],
                         ["add p 1 a", "size 2; read 1 a", "add p 1 b", ["lot p 2", "add p 1 a", "add p 1 b"]])
        check_fails(self, NothingToRedo, {}, desk.do, "redo")
        self.assertEqual([desk.do("undo") for _ in range(3)], ["add p 1 b", "add p 1 a", "lot p 2"])
        check_fails(self, NothingToUndo, {}, desk.do, "undo")
        self.assertEqual([desk.names, desk.do("redo"), desk.names], [[], "lot p 2", ["p"]])

    def test_a_deed_in_between(self):
        desk = desk_with("lot p 2", "add p 1 a")
        desk.do("undo")
        for line in ("names", "states", "show p", "normal ba"):
            desk.do(line)
        self.assertEqual([desk.do("redo"), desk.do("undo"), desk.do("add p 1 b")], ["add p 1 a", "add p 1 a", "-"])
        check_fails(self, NothingToRedo, {}, desk.do, "redo")
        desk.do("undo")
        check_fails(self, NotRead, {"text": "b"}, desk.do, "take p 1 b")
        self.assertEqual([desk.do("redo"), desk.do("show p")], ["add p 1 b", "size 2; read 1 b"])

    def test_told_lists_are_new(self):
        desk = desk_with("read p size 2; read 1 aba", "claim k sure p 1 0,1", "claim m certain p 1 ab")
        held = held_by(desk)
        for told in (desk.names, desk.labels, desk.lines(), desk.claim_of("k")[2], desk.claim_of("m")[1],
                     desk["p"].readings()):
            told.append(7)
        self.assertEqual(held_by(desk), held)


class SeveralCommands(unittest.TestCase):
    def test_all(self):
        desk = Desk()
        self.assertEqual([desk.do_all(), desk.do_all("lot p 2", "add p 1 aba", "claim c close p 1", "undo", "redo",
                                                     "states", "names")],
                         [[], ["-", "-", "c true", "claim c close p 1", "claim c close p 1", "c true", "p"]])
        self.assertEqual(desk.lines(), ["lot p 2", "add p 1 aba", "claim c close p 1"])

    def test_one_fails(self):
        desk = desk_with("lot p 2", "add p 1 aba", "claim c close p 1", "add p 1 x")
        desk.do("undo")
        for commands, position, cause, attributes in (
                (("add p 1 b", "take p 1 z", "drop p"), 1, NotRead, {"text": "z"}),
                (("lot p 2",), 0, NameTaken, {"name": "p"}),
                (("drop p", "show p"), 1, UnknownName, {"value": "p"}), (("undo",) * 4, 3, NothingToUndo, {}),
                (("redo", "redo"), 1, NothingToRedo, {}), (("add p 1 b", None), 1, InvalidCommand, {"value": None}),
                (("forget c", "state c"), 1, UnknownLabel, {"value": "c"}),
                (("add p 1 b", "undo", "redo", "nothing"), 3, InvalidCommand, {"value": "nothing"}),
                (("take p 1 aba", "claim k close p 1"), 1, InvalidPieces, {"value": []}), (("ring ab",), 0, NoRing, {}),
                (("add p 1 ab",) * 198, 197, TooMany, {"what": "deeds", "limit": 200})):
            held = held_by(desk)
            for call in (desk.do_all, desk.attempt):
                with self.assertRaises(CommandFailed) as caught:
                    call(*commands)
                why = caught.exception.__cause__
                self.assertEqual((caught.exception.position, type(why), vars(why)), (position, cause, attributes))
                self.assertEqual(held_by(desk), held)
        self.assertEqual(desk.do("redo"), "add p 1 x")

    def test_attempt(self):
        desk = desk_with("lot p 2", "add p 1 aba", "claim c close p 1")
        desk.do("undo")
        held = held_by(desk)
        self.assertEqual(desk.attempt("redo", "add p 1 ac", "lot q 3", "drop p", "undo", "names", "states"),
                         ["claim c close p 1", "c false", "-", "c gone", "drop p", "p q", "c false"])
        self.assertEqual([desk.attempt(), held_by(desk) == held, desk.do("redo")], [[], True, "claim c close p 1"])


class Copies(unittest.TestCase):
    def test_goes_on_by_itself(self):
        desk = desk_with("lot p 2", "add p 1 aba", "claim c close p 1", "add p 1 x")
        desk.attach("c", [0, 1])
        desk.do("undo")
        other = desk.copy()
        self.assertEqual([type(other), held_by(other) == held_by(desk), other.fits("c")], [Desk, True, True])
        held = held_by(desk)
        self.assertEqual([other.do("redo"), other.do("drop p"), other.do("lot q 2"), other.do("forget c")],
                         ["add p 1 x", "c gone", "-", "-"])
        self.assertEqual([held_by(desk) == held, desk.fits("c"), desk.do("redo")], [True, True, "add p 1 x"])
        self.assertEqual([other.names, desk.names], [["q"], ["p"]])

    def test_again(self):
        desk = desk_with("lot p 2", "add p 1 aba", "claim c close p 1", "both q p p", "drop p", "forget c")
        for lines in (desk.lines(), tuple(desk.lines())):
            other = Desk.again(lines)
            self.assertEqual([type(other), held_by(other) == held_by(desk)], [Desk, True])
        self.assertEqual([len(Desk.again([])), len(Desk.again(())), len(Desk.again(lines=desk.lines()))], [0, 0, 6])

    def test_again_of_no_deeds(self):
        for value in ODD + NUMBERS + STRINGS + ["lot p 2", {"lot p 2": 1}]:
            check_fails(self, InvalidDeeds, {"position": None}, Desk.again, value)
            check_fails(self, InvalidDeeds, {"position": None}, Desk.again, lines=value)
        for wrong in WRONG_COMMANDS + SOME_OTHERS:
            check_fails(self, InvalidDeeds, {"position": 1}, Desk.again, ["lot p 2", wrong])
            check_fails(self, InvalidDeeds, {"position": 0}, Desk.again, (wrong, None))
        # What fails comes behind what is no deed.
        check_fails(self, InvalidDeeds, {"position": 3}, Desk.again, ["lot p 2", "lot p 2", "drop q", "undo"])
        for line in SOME_DEEDS:
            check_fails(self, InvalidDeeds, {"position": 1}, Desk.again, [line, "names"])

    def test_again_with_a_deed_that_fails(self):
        for lines, position, cause in ((["lot p 2", "lot p 2"], 1, NameTaken), (["drop p"], 0, UnknownName),
                                       (["lot p 2"] + ["add p 1 a"] * 200, 200, TooMany)):
            with self.assertRaises(CommandFailed) as caught:
                Desk.again(lines)
            self.assertEqual([caught.exception.position, type(caught.exception.__cause__)], [position, cause])


class Book(unittest.TestCase):
    COMMANDS = [
        "lot {p} 2", "lot {p} 3", "lot {p} 9", "read {p} size 2; read 2 aba",
        "read {p} size 2; read 1 abaca; read 1 bb",
        "add {p} 1 abac", "add {p} 1 ca", "add {p} 2 aba", "add {p} 1 -", "add {p} 1 bb", "add {p} 1 xy",
        "add {p} 21 a", "take {p} 1 ca",
        "take {p} 1 abac", "take {p} 2 aba", "take {p} 1 xy", "both {p} {q} {r}", "copy {p} {q}", "drop {p}",
        "drop {p}",
        "claim {k} certain {p} 1 bac", "claim {k} doubtful {p} 1 aba", "claim {k} sure {p} 1 0,1",
        "claim {k} loose {p} 1 0,2",
        "claim {k} cheap {p} 1 4", "claim {k} dear {p} 2 2", "claim {k} close {p} 1", "claim {k} parted {p} 2",
        "claim {k} close {p} 0",
        "forget {k}", "undo", "undo", "undo", "redo", "redo"]

    def check_told(self, desk, lines):
        lots, claims = book.replay(lines)
        states = {label: book.state_of(lots, words) for label, words in claims.items()}
        self.assertEqual([desk.names, desk.labels, desk.lines(), len(desk)],
                         [sorted(lots), sorted(claims), lines, len(lines)])
        for name, (size, times) in lots.items():
            self.assertEqual(desk[name], book.plain_lot(size, times))
        for label, words in claims.items():
            self.assertEqual([desk.do(f"claimed {label}"), desk.do(f"state {label}"), desk.claim_of(label)],
                             [words, states[label], book.claim_now(lots, words)])
        self.assertEqual(desk.do("states"), book.changes({}, states))

    def check_step(self, desk, lines, back, command):
        if command in ("undo", "redo"):
            if not (lines if command == "undo" else back):
                check_fails(self, NothingToUndo if command == "undo" else NothingToRedo, {}, desk.do, command)
                return
            one, other = (lines, back) if command == "undo" else (back, lines)
            self.assertEqual(desk.do(command), one[-1])
            other.append(one.pop())
            return
        fails = book.failing(lines, command)
        if fails is not None:
            check_fails(self, *fails, desk.do, command)
            return
        answer = desk.do(command)
        lines.append(command)
        back.clear()
        if command.startswith("forget"):
            self.assertEqual(answer, "-")
        else:
            self.assertEqual(answer, book.changes(book.states_of(lines[:-1]), book.states_of(lines)))

    def test_many_deeds(self):
        done = 0
        for seed in range(12):
            desk, lines, back, steps = Desk(), [], [], Steps(seed + 11)
            for at in range(110):
                names = [["p", "q", "r"][steps.below(3)] for _ in range(3)]
                # Lots to begin with, and then claims more often than by chance.
                some = self.COMMANDS[:12] if at < 12 else self.COMMANDS[20:28] if at % 5 == 0 else self.COMMANDS
                command = some[steps.below(len(some))]
                command = command.format(p=names[0], q=names[1], r=names[2], k="kmn"[steps.below(3)])
                ahead = len(lines)
                self.check_step(desk, lines, back, command)
                self.check_told(desk, lines)
                done += len(lines) > ahead and command != "redo"
                if at % 10 == 0:
                    self.assertEqual(told_of(Desk.again(lines))[:-1], told_of(desk)[:-1])
        self.assertGreater(done, 300)
