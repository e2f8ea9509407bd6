"""Point [9b1]: papers kept with labels, and trials of a desk."""

import unittest

from suretexts.claims import contrary, is_paper_of, paper_of
from suretexts.desk import Desk, Trial, tried
from suretexts.errors import InvalidPaper, NotRead, UnknownLabel
from suretexts.papers import rank_paper
from tests.support import LISTS, NUMBERS, ODD, STRINGS, changed, check_fails, check_parameters
from tests.test_desk import desk_with, held_by

WORDS = ["certain p 1 bac", "doubtful p 1 bac", "sure p 1 0,2", "loose p 1 2,0", "sure p 1 2,0", "cheap p 1 4",
         "cheap p 1 3",
         "dear p 1 3", "close p 1", "parted p 1"]


def attached(words, *lines):
    """A desk with a lot and a claim about it, and a paper of the claim or of its contrary kept with this."""
    desk = desk_with("read p size 2; read 1 abaca", *lines, f"claim k {words}")
    claim = desk.claim_of("k")
    paper = paper_of(claim) if paper_of(claim) is not None else paper_of(contrary(claim))
    desk.attach("k", paper)
    return desk


class Attach(unittest.TestCase):
    def test_of_the_claim_or_its_contrary(self):
        for words in WORDS:
            desk = attached(words)
            self.assertIs(desk.fits("k"), True)
            self.assertIs(desk.fits(label="k"), True)
            claim = desk.claim_of("k")
            for one in (claim, contrary(claim)):
                paper = paper_of(one)
                if paper is not None:
                    self.assertIsNone(desk.attach("k", paper))
                    self.assertIsNone(desk.attach(label="k", paper=paper))
                    self.assertIs(desk.fits("k"), True)

    def test_no_paper_at_first(self):
        desk = desk_with("read p size 2; read 1 aba", "claim k close p 1")
        self.assertIs(desk.fits("k"), False)
        desk.attach("k", [0, 1])
        self.assertEqual([desk.fits("k"), desk.do("claim m close p 1"), desk.fits("m")], [True, "m true", False])

    def test_no_deed(self):
        desk = desk_with("read p size 2; read 1 aba", "claim k close p 1", "add p 1 b")
        desk.do("undo")
        desk.attach("k", [0, 1])
        self.assertEqual([len(desk), desk.do("redo"), desk.fits("k"), desk.do("undo"), desk.fits("k")],
                         [2, "add p 1 b", True, "add p 1 b", True])

    def test_any_value(self):
        for words in WORDS:
            desk = attached(words)
            claim = desk.claim_of("k")
            held = held_by(desk)
            papers = [paper for paper in (paper_of(claim), paper_of(contrary(claim))) if paper is not None]
            for value in ODD + NUMBERS + STRINGS + LISTS + changed(papers[0], [True, None, -1, "0", [[]]]):
                shown = repr(value)
                if is_paper_of(claim, value) or is_paper_of(contrary(claim), value):
                    continue
                check_fails(self, InvalidPaper, {"value": value}, desk.attach, "k", value)
                check_fails(self, InvalidPaper, {"value": value}, desk.attach, label="k", paper=value)
                self.assertEqual(repr(value), shown)
            # The paper that was kept is kept.
            self.assertEqual(held_by(desk), held)

    def test_rank_papers(self):
        desk = attached("sure p 1 0,2")
        _, web, walk = desk.claim_of("k")
        desk.attach("k", rank_paper(web, walk))
        self.assertIs(desk.fits("k"), True)

    def test_copied(self):
        for words, paper in (("close p 1", [0, 2, 1, 3]), ("cheap p 1 4", [0, 2, 1, 3]),
                             ("sure p 1 0,2", [(1, 1, [])])):
            desk = desk_with("read p size 2; read 1 abaca", f"claim k {words}")
            desk.attach("k", paper)
            if words.startswith("sure"):
                paper[0][2].append(7)
            paper.append(7)
            self.assertIs(desk.fits("k"), True)

    def test_parameters(self):
        desk = desk_with("read p size 2; read 1 aba", "claim k close p 1")
        wrongs = ODD + NUMBERS + LISTS + ["", "p", "K", "kk", "close"]
        check_parameters(self, desk.attach, [("label", "k", wrongs, UnknownLabel),
                                             ("paper", [0, 1], ODD + [[0]], InvalidPaper)])
        for call in (desk.fits, desk.claim_of):
            check_parameters(self, call, [("label", "k", wrongs, UnknownLabel)])


class Fits(unittest.TestCase):
    def test_no_longer_and_again(self):
        desk = attached("certain p 1 bac")
        # With one more place and two more ways from a, b is not gone on from to c at some time.
        self.assertEqual([desk.do("add p 1 adaa"), desk.fits("k"), desk.do("undo"), desk.fits("k")],
                         ["k false", False, "add p 1 adaa", True])
        self.assertEqual([desk.do("redo"), desk.fits("k"), desk.do("take p 1 adaa"), desk.fits("k")],
                         ["add p 1 adaa", False, "k true", True])

    def test_gone_and_back(self):
        for words in WORDS:
            desk = attached(words)
            state = desk.do("state k")
            self.assertEqual([desk.do("drop p"), desk.fits("k"), desk.claim_of("k")], ["k gone", False, None])
            for value in (None, [0, 1], [], [(1, 1, [])], "abac"):
                check_fails(self, InvalidPaper, {"value": value}, desk.attach, "k", value)
            self.assertEqual([desk.do("read p size 2; read 1 abaca"), desk.fits("k")], [f"k {state}", True])

    def test_what_it_was_kept_for(self):
        # The paper is one of the contrary, and the claim becomes true.
        desk = attached("close p 1", "add p 1 az")
        self.assertEqual([desk.do("state k"), desk.fits("k")], ["false", True])
        self.assertEqual([desk.do("take p 1 az"), desk.fits("k")], ["k true", False])
        desk.attach("k", [0, 2, 1, 3])
        self.assertEqual([desk.fits("k"), desk.do("undo"), desk.do("state k"), desk.fits("k")],
                         [True, "take p 1 az", "false", False])

    def test_forgotten_and_noted_again(self):
        desk = attached("cheap p 1 4")
        desk.do("forget k")
        check_fails(self, UnknownLabel, {"value": "k"}, desk.fits, "k")
        check_fails(self, UnknownLabel, {"value": "k"}, desk.attach, "k", [0, 2, 1, 3])
        # With other words, though it is a paper of this claim as well.
        self.assertEqual([desk.do("claim k cheap p 1 5"), desk.fits("k"),
                          is_paper_of(desk.claim_of("k"), [0, 2, 1, 3])],
                         ["k true", False, True])
        self.assertEqual([desk.do("forget k"), desk.do("claim k cheap p 1 4"), desk.fits("k")], ["-", "k true", True])
        # With the contrary's words.
        self.assertEqual([desk.do("forget k"), desk.do("claim k dear p 1 4"), desk.fits("k")], ["-", "k false", False])
        desk.attach("k", [0, 2, 1, 3])
        self.assertEqual([desk.fits("k"), desk.do("undo"), desk.do("undo"), desk.fits("k")],
                         [True, "claim k dear p 1 4", "forget k", False])

    def test_of_another_name(self):
        desk = attached("close p 1", "copy q p")
        self.assertEqual([desk.do("forget k"), desk.do("claim k close q 1"), desk.fits("k")], ["-", "k true", False])
        self.assertEqual([desk.do("undo"), desk.do("undo"), desk.fits("k")], ["claim k close q 1", "forget k", True])

    def test_stays_when_its_claim_is_undone(self):
        desk = attached("close p 1")
        self.assertEqual(desk.do("undo"), "claim k close p 1")
        check_fails(self, UnknownLabel, {"value": "k"}, desk.fits, "k")
        self.assertEqual([desk.do("redo"), desk.fits("k")], ["claim k close p 1", True])
        self.assertEqual([desk.do("undo"), desk.do("claim k parted p 1"), desk.fits("k")],
                         ["claim k close p 1", "k false", False])

    def test_another_one_in_its_place(self):
        desk = attached("parted p 1", "add p 1 az")
        desk.attach("k", [3])
        self.assertIs(desk.fits("k"), True)
        self.assertEqual([desk.do("take p 1 az"), desk.fits("k")], ["k false", False])
        desk.attach("k", [0, 2, 1, 3])
        self.assertEqual([desk.fits("k"), desk.do("undo"), desk.fits("k"), desk.do("redo"), desk.fits("k")],
                         [True, "take p 1 az", False, "take p 1 az", True])


class Trials(unittest.TestCase):
    LINES = ["add p 1 x", "drop q", "claim m close p 1", "forget k", "undo", "lot r 5", "claim n dear p 1 1", "undo",
             "undo"]

    def desk(self):
        """A desk with a paper, and with a deed that can be done again."""
        desk = desk_with("read p size 2; read 1 abaca", "copy q p", "claim k close p 1", "add q 1 z")
        desk.attach("k", [0, 2, 1, 3])
        desk.do("undo")
        return desk

    def test_all_is_as_it_was(self):
        for many in range(len(self.LINES) + 1):
            desk = self.desk()
            held = held_by(desk)
            with Trial(desk) as told:
                self.assertIs(told, desk)
                for line in self.LINES[:many]:
                    told.do(line)
            self.assertEqual(held_by(desk), held)
            self.assertEqual([desk.fits("k"), desk.do("redo")], [True, "add q 1 z"])

    def test_papers(self):
        desk = desk_with("read p size 2; read 1 aba", "claim k close p 1", "claim m close p 1")
        desk.attach("m", [0, 1])
        with Trial(desk):
            desk.attach("k", [0, 1])
            desk.do_all("forget m", "claim m cheap p 1 9")
            desk.attach("m", [0, 1])
            self.assertEqual([desk.fits("k"), desk.fits("m")], [True, True])
        self.assertEqual([desk.fits("k"), desk.fits("m")], [False, True])

    def test_an_error_leaves_it(self):
        desk = self.desk()
        held = held_by(desk)
        for fails in (lambda: desk.do("take p 1 zz"), lambda: desk.do_all("drop q", "undo", "drop q", "drop q"),
                      lambda: desk["x"], lambda: [][1], lambda: 1 // 0):
            try:
                fails()
            except Exception as error:
                wanted = error
            with self.assertRaises(type(wanted)) as caught:
                with Trial(desk):
                    desk.do("add p 1 b")
                    fails()
            self.assertEqual(vars(caught.exception), vars(wanted))
            self.assertEqual(held_by(desk), held)

    def test_one_block_after_the_other(self):
        desk = desk_with("lot p 2")
        trial = Trial(desk)
        desk.do("add p 1 a")
        for _ in range(2):
            with trial as held:
                held.do("drop p")
            # It is as it was ahead of the block, not as it was when the trial was made.
            self.assertEqual([held is desk, desk.do("show p")], [True, "size 2; read 1 a"])
            desk.do("add p 1 a")
            desk.do("undo")
        with Trial(desk=desk):
            desk.do("undo")
        self.assertEqual(desk.do("show p"), "size 2; read 1 a")

    def test_left_at_once(self):
        desk = desk_with("lot p 2")

        def left():
            with Trial(desk) as held:
                held.do("drop p")
                return held.names
        self.assertEqual([left(), desk.names], [[], ["p"]])
        for line in ("drop p", "add p 1 a"):
            with Trial(desk):
                desk.do(line)
                continue
        self.assertEqual([desk.do("show p"), len(desk)], ["size 2", 1])

    def test_tried(self):
        desk = self.desk()
        held = held_by(desk)
        self.assertEqual(tried(desk, lambda one: one.do_all("drop p", "states", "names")), ["k gone", "k gone", "q"])
        self.assertEqual(held_by(desk), held)
        self.assertEqual([tried(desk=desk, action=len), tried(desk, lambda one: None)], [len(desk), None])
        self.assertIs(tried(desk, lambda one: one), desk)
        check_fails(self, NotRead, {"text": "zz"}, tried, desk,
                    lambda one: one.do_all() + [one.do("drop q"), one.do("take p 1 zz")])
        self.assertEqual(held_by(desk), held)

    def test_two_desks(self):
        desk, other = desk_with("lot p 2"), Desk()
        with Trial(desk), Trial(other):
            desk.do("drop p")
            other.do("lot q 2")
        self.assertEqual([desk.names, other.names], [["p"], []])
