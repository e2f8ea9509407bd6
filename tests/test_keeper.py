"""Points [8a1] to [8a5]: a keeper of readings."""

import unittest
from unittest import mock

from suretexts.errors import (
    FewTimes, InvalidLeast, InvalidSize, InvalidText, InvalidTimes, NothingToRedo, NothingToUndo, NotRead, TooMany)
from suretexts.greatest import contigs
from suretexts.keeper import Keeper
from suretexts.lots import Lot, with_reading
from suretexts.pieces import PieceWeb
from tests.support import (
    HUGE, LISTS, ODD, STRINGS, WRONG_SIZES, WRONG_TEXTS, WRONG_TIMES, check_fails, check_parameters, words)
from tests.test_lots import TEXTS
from tests.test_mending import all_pairs
from tests.test_pieced import SIXTY
from tests.webs import comes_to

WRONG_LEASTS = ODD + STRINGS + LISTS + [-1, 0, 21, HUGE, -HUGE]


def plain_clusters(pieces):
    """The pieces of each part, by what each word comes to."""
    if not pieces:
        return []
    shop = PieceWeb(pieces)
    reached = comes_to(shop.web())
    parts = {tuple(other for other in reached[place] if place in reached[other]) for place in range(len(shop.words()))}
    lots = [[shop.pieces()[tie] for tie, (near, far) in enumerate(shop.web().ties()) if near in part and far in part]
            for part in parts]
    return sorted(lot for lot in lots if lot)


def told_of(keeper):
    """All that a keeper tells of its readings."""
    return [keeper.lot(), keeper.solid(), keeper.log(), keeper.clusters(), keeper.contigs()]


def state_of(keeper):
    """All that a keeper holds, told by a copy of it."""
    other = keeper.copy()
    told = [other.size, other.least(), other.lot(), other.log(), other.reckoned(), other.contigs(), other.reckoned()]
    redone = []
    while True:
        try:
            redone.append(other.redone())
        except NothingToRedo:
            return told + [redone]


def done_again(keeper):
    """A new keeper that has done the deeds of the log."""
    other = Keeper(keeper.size, keeper.least())
    for word, text, times in keeper.log():
        (other.added if word == "added" else other.taken)(text, times)
    return other


class Deeds(unittest.TestCase):
    def test_begin(self):
        keeper = Keeper(3, 20)
        self.assertEqual([keeper.size, keeper.least(), keeper.lot(), keeper.solid(), keeper.log(), keeper.clusters(),
                          keeper.contigs(), keeper.reckoned()], [3, 20, Lot(3, []), [], [], [], [], 0])
        check_fails(self, NothingToUndo, {}, keeper.undone)
        check_fails(self, NothingToRedo, {}, keeper.redone)
        self.assertEqual([Keeper(2, 1).least(), Keeper(8, 1).size], [1, 8])

    def test_added_and_taken(self):
        keeper = Keeper(2, 2)
        self.assertEqual([keeper.added("abab", 1), keeper.added("", 20), keeper.taken("abab", 1), keeper.taken("", 19)],
                         [None] * 4)
        self.assertEqual(keeper.lot(), Lot(2, [("", 1)]))
        self.assertEqual(keeper.log(), [("added", "abab", 1), ("added", "", 20), ("taken", "abab", 1),
                                        ("taken", "", 19)])

    def test_undone_and_redone(self):
        keeper = Keeper(2, 1)
        keeper.added("ab", 2)
        keeper.added("ba", 1)
        keeper.taken("ab", 1)
        told = told_of(keeper)
        self.assertEqual([keeper.undone(), keeper.undone()], [("taken", "ab", 1), ("added", "ba", 1)])
        self.assertEqual([keeper.lot(), keeper.log()], [Lot(2, [("ab", 2)]), [("added", "ab", 2)]])
        self.assertEqual([keeper.redone(), keeper.redone()], [("added", "ba", 1), ("taken", "ab", 1)])
        self.assertEqual(told_of(keeper), told)
        check_fails(self, NothingToRedo, {}, keeper.redone)
        self.assertEqual([keeper.undone() for _ in range(3)],
                         [("taken", "ab", 1), ("added", "ba", 1), ("added", "ab", 2)])
        check_fails(self, NothingToUndo, {}, keeper.undone)
        self.assertEqual([keeper.lot(), keeper.log(), keeper.redone()], [Lot(2, []), [], ("added", "ab", 2)])

    def test_a_deed_behind_an_undo(self):
        keeper = Keeper(2, 1)
        keeper.added("ab", 2)
        keeper.undone()
        keeper.added("ba", 1)
        check_fails(self, NothingToRedo, {}, keeper.redone)
        self.assertEqual([keeper.log(), keeper.undone(), keeper.redone()],
                         [[("added", "ba", 1)], ("added", "ba", 1), ("added", "ba", 1)])

    def test_a_refused_deed(self):
        keeper = Keeper(2, 1)
        keeper.added("ab", 2)
        keeper.added("ba", 1)
        keeper.undone()
        keeper.contigs()
        held = state_of(keeper)
        for error, attributes, call, args in (
                (NotRead, {"text": "ba"}, keeper.taken, ("ba", 1)), (NotRead, {"text": ""}, keeper.taken, ("", 1)),
                (FewTimes, {}, keeper.taken, ("ab", 3)), (FewTimes, {}, keeper.taken, ("ab", 20)),
                (InvalidText, {"value": "A"}, keeper.added, ("A", 0)),
                (InvalidTimes, {"value": 21}, keeper.added, ("ab", 21)),
                (InvalidTimes, {"value": True}, keeper.taken, ("ab", True))):
            check_fails(self, error, attributes, call, *args)
            self.assertEqual(state_of(keeper), held)
        self.assertEqual(keeper.redone(), ("added", "ba", 1))

    def test_too_many(self):
        keeper = Keeper(2, 1)
        for _ in range(60):
            keeper.added("ab", 20)
        keeper.undone()
        keeper.redone()
        held = state_of(keeper)
        check_fails(self, TooMany, {"what": "times", "limit": 1200}, keeper.added, "ab", 1)
        self.assertEqual(state_of(keeper), held)
        keeper = Keeper(2, 1)
        for text in TEXTS:
            keeper.added(text, 1)
        keeper.added("a", 20)
        keeper.undone()
        held = state_of(keeper)
        check_fails(self, TooMany, {"what": "readings", "limit": 60}, keeper.added, "zzzz", 1)
        self.assertEqual([state_of(keeper), keeper.redone()], [held, ("added", "a", 20)])

    def test_parameters(self):
        for name in ("added", "taken"):
            keeper = Keeper(2, 1)
            keeper.added("ab", 20)
            check_parameters(self, getattr(keeper, name), [
                ("text", "ab", WRONG_TEXTS, InvalidText), ("times", 1, WRONG_TIMES, InvalidTimes)])
        for least in (1, 20):
            check_parameters(self, Keeper, [
                ("size", 2, WRONG_SIZES, InvalidSize), ("least", least, WRONG_LEASTS, InvalidLeast)])


class Clusters(unittest.TestCase):
    def test_parts(self):
        for text, wanted in (("abac", [["ab", "ba"]]), ("abacaxyxz", [["ab", "ac", "ba", "ca"], ["xy", "yx"]]),
                             ("abc", []),
                             ("aabb", [["aa"], ["bb"]]), ("", []), ("abcab", [["ab", "bc", "ca"]]), ("aaaa", [["aa"]])):
            keeper = Keeper(2, 1)
            keeper.added(text, 1)
            self.assertEqual([keeper.clusters(), plain_clusters(keeper.solid())], [wanted, wanted])

    def test_all_small_lots(self):
        for text in words("abc", 6)[::5]:
            for size in (2, 3):
                keeper = Keeper(size, 1)
                keeper.added(text, 1)
                keeper.added("cacc", 1)
                self.assertEqual(keeper.clusters(), plain_clusters(keeper.solid()))
                self.assertEqual(keeper.contigs(), contigs(keeper.solid()))

    def test_solid_ones_alone(self):
        keeper = Keeper(2, 3)
        keeper.added("aba", 2)
        self.assertEqual([keeper.solid(), keeper.clusters(), keeper.contigs()], [[], [], []])
        keeper.added("ab", 1)
        self.assertEqual([keeper.solid(), keeper.clusters(), keeper.contigs()], [["ab"], [], []])
        keeper.added("ba", 1)
        self.assertEqual([keeper.clusters(), keeper.contigs()], [[["ab", "ba"]], [("ab", True)]])

    def test_part_and_join_and_become_rings(self):
        keeper = Keeper(2, 1)
        keeper.added("abaca", 1)
        self.assertEqual(keeper.contigs(), [("abaca", False), ("acaba", False)])
        keeper.added("xyx", 1)
        self.assertEqual([keeper.clusters(), keeper.reckoned()], [[["ab", "ac", "ba", "ca"], ["xy", "yx"]], 1])
        self.assertEqual([keeper.contigs(), keeper.reckoned()], [[("abaca", False), ("acaba", False), ("xy", True)], 2])
        # A way there alone joins nothing; one more back does.
        keeper.added("bx", 1)
        self.assertEqual([len(keeper.clusters()), len(keeper.contigs()), keeper.reckoned()], [2, 3, 2])
        keeper.added("ya", 1)
        self.assertEqual([keeper.clusters(), keeper.contigs() == contigs(keeper.solid()), keeper.reckoned()],
                         [[["ab", "ac", "ba", "bx", "ca", "xy", "ya", "yx"]], True, 3])
        keeper.taken("bx", 1)
        self.assertEqual([keeper.clusters(), keeper.contigs(), keeper.reckoned()],
                         [[["ab", "ac", "ba", "ca"], ["xy", "yx"]], [("abaca", False), ("acaba", False), ("xy", True)],
                          5])
        keeper.taken("abaca", 1)
        keeper.added("aba", 1)
        self.assertEqual([keeper.contigs(), keeper.reckoned()], [[("ab", True), ("xy", True)], 6])

    def test_too_many(self):
        keeper = Keeper(2, 1)
        keeper.added(all_pairs()[1:], 1)
        self.assertEqual(len(keeper.clusters()[0]), 80)
        keeper.added(all_pairs()[:2], 1)
        self.assertEqual(len(keeper.solid()), 81)
        for call in (keeper.clusters, keeper.contigs):
            check_fails(self, TooMany, {"what": "pieces", "limit": 80}, call)
        keeper.undone()
        keeper.clusters()
        keeper = Keeper(4, 1)
        keeper.added(SIXTY + SIXTY[:3], 1)
        self.assertEqual([len(keeper.clusters()[0]), keeper.contigs()[0][1], keeper.reckoned()], [60, True, 1])
        keeper.added("zzzz", 1)
        for call in (keeper.clusters, keeper.contigs):
            check_fails(self, TooMany, {"what": "words", "limit": 60}, call)
        self.assertEqual([keeper.reckoned(), keeper.undone(), keeper.contigs()[0][1], keeper.reckoned()],
                         [1, ("added", "zzzz", 1), True, 1])

    def test_errors_of_contigs(self):
        keeper = Keeper(2, 1)
        keeper.added("xyx", 1)
        keeper.contigs()
        keeper.added("aabba", 1)
        keeper.added("dd", 1)
        with mock.patch("suretexts.greatest.MOST_WALKS", 1):
            for _ in range(2):
                check_fails(self, TooMany, {"what": "walks", "limit": 1}, keeper.contigs)
                self.assertEqual(keeper.reckoned(), 1)
        self.assertEqual([keeper.contigs() == contigs(keeper.solid()), keeper.reckoned()], [True, 3])


class Reckoned(unittest.TestCase):
    def test_asked_twice(self):
        keeper = Keeper(2, 1)
        keeper.added("abaca", 1)
        self.assertEqual(keeper.reckoned(), 0)
        for _ in range(3):
            self.assertEqual([len(keeper.contigs()), keeper.reckoned()], [2, 1])
        self.assertEqual([keeper.clusters(), keeper.reckoned()], [[["ab", "ac", "ba", "ca"]], 1])

    def test_behind_undo_and_redo(self):
        keeper = Keeper(2, 1)
        keeper.added("aba", 1)
        keeper.contigs()
        keeper.added("aca", 1)
        keeper.undone()
        # Nobody asked in between.
        self.assertEqual([keeper.contigs(), keeper.reckoned()], [[("ab", True)], 1])
        keeper.redone()
        self.assertEqual([len(keeper.contigs()), keeper.reckoned()], [2, 2])
        keeper.undone()
        self.assertEqual([keeper.contigs(), keeper.reckoned()], [[("ab", True)], 3])

    def test_only_what_was_told_last_is_kept(self):
        keeper = Keeper(2, 1)
        keeper.added("aba", 1)
        keeper.added("xyx", 1)
        keeper.contigs()
        keeper.taken("aba", 1)
        self.assertEqual([keeper.contigs(), keeper.reckoned()], [[("xy", True)], 2])
        keeper.added("aba", 1)
        self.assertEqual([keeper.contigs(), keeper.reckoned()], [[("ab", True), ("xy", True)], 3])
        keeper.taken("aba", 1)
        keeper.taken("xyx", 1)
        self.assertEqual([keeper.contigs(), keeper.reckoned()], [[], 3])
        keeper.undone()
        self.assertEqual([keeper.contigs(), keeper.reckoned()], [[("xy", True)], 4])

    def test_the_same_pieces_of_other_readings(self):
        keeper = Keeper(2, 1)
        keeper.added("aba", 1)
        keeper.contigs()
        keeper.added("bab", 3)
        keeper.taken("aba", 1)
        self.assertEqual([keeper.contigs(), keeper.reckoned()], [[("ab", True)], 1])


class Copies(unittest.TestCase):
    def test_goes_on_apart(self):
        keeper = Keeper(2, 1)
        keeper.added("aba", 1)
        keeper.contigs()
        keeper.added("aca", 1)
        keeper.undone()
        other = keeper.copy()
        self.assertIs(type(other), Keeper)
        self.assertEqual(state_of(other), state_of(keeper))
        held = state_of(keeper)
        self.assertEqual([other.reckoned(), other.contigs(), other.reckoned()], [1, [("ab", True)], 1])
        other.added("xyx", 2)
        self.assertEqual([len(other.contigs()), other.reckoned()], [2, 2])
        other.undone()
        other.undone()
        other.contigs()
        self.assertEqual(state_of(keeper), held)
        self.assertEqual([keeper.redone(), keeper.contigs(), keeper.reckoned()],
                         [("added", "aca", 1), [("abaca", False), ("acaba", False)], 2])
        self.assertEqual([other.log(), other.redone(), other.redone()],
                         [[], ("added", "aba", 1), ("added", "xyx", 2)])

    def test_what_is_told_is_new(self):
        keeper = Keeper(2, 1)
        keeper.added("abaca", 1)
        keeper.contigs()
        held = state_of(keeper)
        for told in (keeper.solid(), keeper.log(), keeper.clusters(), keeper.clusters()[0], keeper.contigs()):
            told.append(7)
        self.assertEqual(state_of(keeper), held)
        self.assertEqual(keeper.contigs(), [("abaca", False), ("acaba", False)])


class Steps:
    """Numbers that jump about, the same ones each time."""

    def __init__(self, seed):
        self.now = seed

    def below(self, limit):
        self.now = (self.now * 1103515245 + 12345) % 2 ** 31
        return self.now // 65536 % limit


class AsAnew(unittest.TestCase):
    def check_anew(self, keeper, log):
        self.assertEqual(keeper.log(), log)
        self.assertEqual(told_of(done_again(keeper)), told_of(keeper))
        times = {}
        for word, text, many in log:
            times[text] = times.get(text, 0) + (many if word == "added" else -many)
        lot = Lot(keeper.size, [])
        for text in sorted(times, reverse=True):
            if times[text]:
                lot = with_reading(lot, text, times[text])
        self.assertEqual(keeper.lot(), lot)
        solid = [piece for piece, often in lot.pieces() if often >= keeper.least()]
        self.assertEqual([keeper.solid(), keeper.clusters()], [solid, plain_clusters(solid)])
        self.assertEqual(keeper.contigs(), contigs(solid) if solid else [])

    def check_step(self, keeper, book, which, text, times):
        """One call, done in a plain book of deeds as well."""
        log, ahead = book
        read = sum(many if word == "added" else -many for word, other, many in log if other == text)
        if which < 4 and read + times <= 20:
            keeper.added(text, times)
            log.append(("added", text, times))
            ahead.clear()
        elif which < 7:
            if read < times:
                check_fails(self, *((FewTimes, {}) if read else (NotRead, {"text": text})), keeper.taken, text, times)
            else:
                keeper.taken(text, times)
                log.append(("taken", text, times))
                ahead.clear()
        elif which < 10 and log:
            self.assertEqual(keeper.undone(), log[-1])
            ahead.append(log.pop())
        elif ahead:
            self.assertEqual(keeper.redone(), ahead[-1])
            log.append(ahead.pop())

    def test_whatever_comes_and_goes(self):
        for seed, size, least in ((1, 2, 1), (2, 2, 3), (3, 3, 2), (4, 2, 2)):
            keeper, book, steps = Keeper(size, least), ([], []), Steps(seed)
            kept, reckoned = [], 0
            texts = ["abac", "ca", "", "xyx", "bx", "ya", "aab", "cabab", "zz"]
            for _ in range(60):
                self.check_step(keeper, book, steps.below(13), texts[steps.below(9)], 1 + steps.below(3))
                if steps.below(2):
                    now = keeper.clusters()
                    reckoned += sum(cluster not in kept for cluster in now)
                    kept = now
                    keeper.contigs()
                self.assertEqual(keeper.reckoned(), reckoned)
                self.check_anew(keeper.copy(), book[0])

    def test_like_lots(self):
        one, two = Keeper(2, 2), Keeper(2, 2)
        for text in ("abac", "ca", "ca", "ab", "ba", "ac"):
            one.added(text, 1)
        for text in ("ac", "ba", "zz", "ab"):
            two.added(text, 1)
        two.contigs()
        two.taken("zz", 1)
        two.added("ca", 2)
        two.added("abac", 1)
        self.assertEqual([one.lot(), one.solid(), one.contigs()], [two.lot(), two.solid(), two.contigs()])
        self.assertNotEqual(one.log(), two.log())
