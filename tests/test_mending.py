"""Points [7a1] to [7a5]: words mended to the letters of walks."""

import unittest
from itertools import product

from suretexts.errors import (
    InvalidLeast, InvalidLot, InvalidMany, InvalidPieceWeb, InvalidWalk, InvalidWord, NothingSolid, TooMany)
from suretexts.lots import Lot, both_lots
from suretexts.mending import (
    change_paper, is_change_paper, is_mending, least_changes, mended, mended_readings, walk_letters)
from suretexts.pieced import line_pieces
from suretexts.pieces import PieceWeb
from tests.support import (
    HUGE, LISTS, NUMBERS, ODD, STRINGS, WRONG_COUNTS, WRONG_LEASTS, WRONG_LOTS, WRONG_RINGS, as_tuples, changed,
    check_fails, check_parameters, words)
from tests.test_pieced import PIECES_60_WORDS, PIECES_81, SIXTY
from tests.test_pieces import SHOP, WRONG_PIECE_WEBS, WRONG_SHOP_WALKS
from tests.webs import walks

BOTH = PieceWeb(["ab", "ba"])
LOOP = PieceWeb(["aa"])
ONE = PieceWeb(["ab"])
APART = PieceWeb(["ab", "cd", "dd"])
THREE = PieceWeb(["aab", "aba", "baa", "bba"])
WEBS = [BOTH, LOOP, ONE, APART, THREE, SHOP, PieceWeb(["ab", "bc", "cd"])]
WORDS = words("abc", 3)

WRONG_WORDS = WRONG_RINGS + ["a" * 201]


def distance(word, letters):
    """The fewest letters changed, left out, put in by which the word becomes the letters."""
    row = list(range(len(letters) + 1))
    for at, letter in enumerate(word):
        ahead, row = row, [at + 1]
        for k, other in enumerate(letters):
            row.append(min(ahead[k] + (letter != other), ahead[k + 1] + 1, row[k] + 1))
    return row[-1]


def letters_of(shop, walk):
    return "".join(shop.pieces()[tie][-1] for tie in walk)


def reckon(shop, word):
    """The least changes and the levels, by all walks that are not too long to be of use."""
    ties = shop.web().ties()
    told = [(ties[walk[-1]][1], letters_of(shop, walk)) for walk in walks(shop.web(), 2 * len(word))]
    least = min(distance(word, letters) for _, letters in told)
    levels = []
    for read in range(len(word) + 1):
        row = [read] * len(shop.words())
        for place, letters in told:
            row[place] = min(row[place], distance(word[:read], letters))
        levels.append(row)
    return least, levels


RECKONED = [(shop, word, *reckon(shop, word)) for shop in WEBS for word in WORDS]


def led_into(shop, word, deeds):
    """The ties of the deeds and how many changes they are; None if they don't read the word as it is."""
    left, ties, changes = list(word), [], 0
    for deed in deeds:
        letter = None if len(deed) == 1 else shop.letter_of(deed[1])
        ties += deed[1:]
        changes += deed[0] != "keep"
        if deed[0] == "put":
            continue
        if not left:
            return None
        read = left.pop(0)
        if deed[0] == "keep" and read != letter or deed[0] == "turn" and read == letter:
            return None
    return None if left else (ties, changes)


def is_right(shop, word, paper, many):
    """Whether lists with a COUNT for each place are a change paper, by its words."""
    ties = list(enumerate(shop.web().ties()))
    rows = list(zip(word, paper, paper[1:]))
    return (not any(paper[0]) and all(number >= many for number in paper[-1])
            and all(row[far] <= ahead[near] + (shop.letter_of(tie) != letter)
                    for letter, ahead, row in rows for tie, (near, far) in ties)
            and all(row[place] <= ahead[place] + 1 for _, ahead, row in rows for place in range(len(ahead)))
            and all(row[far] <= row[near] + 1 for row in paper for _, (near, far) in ties))


class Least(unittest.TestCase):
    def test_all_walks(self):
        for shop, word, least, levels in RECKONED:
            self.assertEqual(least_changes(shop, word), least)
            self.assertEqual(change_paper(shop, word), levels)
            self.assertEqual(min(levels[-1]), least)
            self.assertLessEqual(least, len(word))

    def test_mended(self):
        for shop, word, least, _ in RECKONED:
            self.check_mended(shop, word, least)

    def check_mended(self, shop, word, least):
        told = mended(shop, word)
        walk, deeds = told
        self.assertEqual([type(told), type(walk), type(deeds)], [tuple, list, list])
        self.assertEqual(led_into(shop, word, deeds), (walk, least))
        self.assertTrue(1 <= len(walk) <= 400 and len(deeds) <= 400)
        self.assertEqual(mended(shop, word)[0].__class__, list)
        self.assertIs(is_mending(shop, word, told), True)
        self.assertEqual(least_changes(shop, word), least)

    def test_without_a_letter_in_common(self):
        # All letters may be left out, but not without a tie.
        for shop in WEBS:
            for word in ("z", "zz", "zzzzz", "z" * 200):
                self.check_mended(shop, word, min(len(word), least_changes(shop, word)))
        self.assertEqual([least_changes(ONE, "z" * 200), least_changes(ONE, "z" * 99 + "b")], [200, 99])

    def test_long_words(self):
        self.check_mended(BOTH, "ab" * 100, 0)
        self.check_mended(LOOP, "a" * 200, 0)
        self.check_mended(LOOP, "b" * 200, 200)
        self.check_mended(BOTH, "ab" * 49 + "b" + "ab" * 50, 1)
        self.check_mended(LOOP, "ab" * 100, 100)
        self.check_mended(ONE, "ab" * 100, 199)
        # A letter put in for each one that stands twice.
        self.check_mended(SHOP, "bb" * 100, 100)
        self.check_mended(PieceWeb(PIECES_60_WORDS), SIXTY * 3 + SIXTY[:20], 0)

    def test_letters_put_in(self):
        shop = PieceWeb(["ab", "bc", "cd", "de", "ea"])
        self.assertEqual(mended(shop, "abcea")[1].count(("put", 2)), 1)
        self.check_mended(shop, "abcea", 1)
        self.check_mended(shop, "abcdeabcdeab", 0)
        self.check_mended(shop, "abdeacdeab", 2)

    def test_new_lists(self):
        mended(BOTH, "ab")[0].append(7)
        mended(BOTH, "ab")[1].append(7)
        change_paper(BOTH, "ab")[0].append(7)
        self.assertEqual([mended(BOTH, "ab"), change_paper(BOTH, "ab")],
                         [([1, 0], [("keep", 1), ("keep", 0)]), [[0, 0], [0, 1], [1, 0]]])


class Mendings(unittest.TestCase):
    def test_all_deeds(self):
        kinds = [("out",)] + [(kind, tie) for kind in ("keep", "turn", "put") for tie in (0, 1)]
        ties = BOTH.web().ties()
        for many in (1, 2, 3):
            for deeds in product(kinds, repeat=many):
                for word in ("a", "ab", "bb"):
                    told = led_into(BOTH, word, deeds)
                    walk = told[0] if told else [deed[1] for deed in deeds if len(deed) == 2]
                    goes = all(ties[one][1] == ties[two][0] for one, two in zip(walk, walk[1:]))
                    wanted = told is not None and walk != [] and goes
                    self.assertIs(is_mending(BOTH, word, (walk, list(deeds))), wanted)
                    self.assertIs(is_mending(BOTH, word, (tuple(walk), deeds)), wanted)
                    self.assertIs(is_mending(BOTH, word, (walk[1:], deeds)), False)
                    self.assertIs(is_mending(BOTH, word, (walk + [1 - tie for tie in walk[-1:]], deeds)), False)

    def test_what_is_wrong(self):
        good = ([0, 1], [("keep", 0), ("turn", 1)])
        self.assertIs(is_mending(BOTH, "bb", good), True)
        for word, walk, deeds in (
                ("bbb", [0, 1], good[1]), ("b", [0, 1], good[1]), ("ba", [0, 1], good[1]), ("ab", [0, 1], good[1]),
                ("bb", [0, 0], [("keep", 0), ("keep", 0)]), ("bb", [0, 1], [("keep", 0), ("keep", 1)]),
                ("bb", [1, 0], [("turn", 1), ("turn", 0)]), ("bb", [], [("out",), ("out",)]),
                ("bb", [0], [("keep", 0)]), ("bb", [0], [("keep", 0), ("out",), ("out",)]),
                ("bb", [1, 0], good[1]), ("bb", [0], good[1]), ("bb", [0, 1, 0], good[1])):
            self.assertIs(is_mending(BOTH, word, (walk, deeds)), False)
        for word, walk, deeds in (
                ("bb", [0], [("keep", 0), ("out",)]), ("bb", [0], [("out",), ("put", 0), ("out",)]),
                ("bb", [0, 1, 0], [("keep", 0), ("put", 1), ("keep", 0)]), ("bb", [1], [("out",), ("turn", 1)])):
            self.assertIs(is_mending(BOTH, word, (walk, deeds)), True)

    def test_400_ties(self):
        word = "a" * 200
        for puts, wanted in ((0, True), (199, True), (200, True), (201, False), (300, False)):
            deeds = [("keep", 0)] * 200 + [("put", 0)] * puts
            self.assertIs(is_mending(LOOP, word, ([0] * (200 + puts), deeds)), wanted)
        deeds = [("out",)] * 200 + [("put", 0)] * 400
        self.assertIs(is_mending(LOOP, word, ([0] * 400, deeds)), True)

    def test_any_value(self):
        good = ([0, 1], [("keep", 0), ("turn", 1)])
        values = ODD + NUMBERS + STRINGS + LISTS + changed(good, ODD + NUMBERS + STRINGS + LISTS) + [
            (), (good,), good + ([],), ([0, 1],), list(good), ([0, 1], {}), ([0, 1], [["keep", 0], ("turn", 1)]),
            ([0, 1], [("keep", 0, 0), ("turn", 1)]), ([0, 1], [("keep",), ("turn", 1)]),
            ([0, 1], [("out", 0), ("turn", 1)]),
            ([0, 1], [(), ("turn", 1)]), ([0, 1], [("stay", 0), ("turn", 1)]), ([0, 1], [("keep", False), ("turn", 1)]),
            ([0, 1], [("keep", 0), ("turn", True)]), ([False, 1], good[1]), ([0, True], good[1]), good[::-1]]
        for value in values:
            if repr(value) == repr(good):
                continue
            shown = repr(value)
            with self.subTest(value=value):
                self.assertIs(is_mending(BOTH, "bb", value), False)
                self.assertIs(is_mending(pieceweb=BOTH, word="bb", value=value), False)
                self.assertEqual(repr(value), shown)
        self.assertIs(is_mending(BOTH, "bb", as_tuples(good)), True)

    def test_walk_letters(self):
        for shop in WEBS:
            for walk in walks(shop.web(), 4):
                self.assertEqual(walk_letters(shop, walk), letters_of(shop, walk))
                self.assertEqual(walk_letters(shop, tuple(walk)), letters_of(shop, walk))
        self.assertEqual(walk_letters(BOTH, [1, 0] * 200), "ab" * 200)


class Papers(unittest.TestCase):
    def test_all_small_ones(self):
        for shop, word, most in ((LOOP, "ab", 4), (LOOP, "aba", 3), (ONE, "b", 2), (BOTH, "bb", 2), (BOTH, "ab", 2)):
            places = len(shop.words())
            for numbers in product(range(most + 1), repeat=places * (len(word) + 1)):
                paper = [list(numbers[at:at + places]) for at in range(0, len(numbers), places)]
                for many in range(3):
                    self.assertIs(is_change_paper(shop, word, paper, many), is_right(shop, word, paper, many))

    def test_levels(self):
        for shop, word, least, _ in RECKONED:
            paper = change_paper(shop, word)
            for many in range(least + 3):
                for told in (paper, as_tuples(paper)):
                    self.assertIs(is_change_paper(shop, word, told, many), many <= least)

    def test_greatest(self):
        for shop, word, _, levels in RECKONED[::2]:
            for read, row in enumerate(levels):
                for place in range(len(row)):
                    paper = change_paper(shop, word)
                    paper[read][place] += 1
                    self.assertIs(is_change_paper(shop, word, paper, 0), False)
                    paper[read][place] -= 2
                    wanted = paper[read][place] >= 0 and is_right(shop, word, paper, 0)
                    self.assertIs(is_change_paper(shop, word, paper, 0), wanted)

    def test_nothing_shown(self):
        self.assertIs(is_change_paper(BOTH, "bb", [[0, 0]] * 3, 0), True)
        self.assertIs(is_change_paper(BOTH, "bb", [[0, 0]] * 3, 1), False)
        self.assertIs(is_change_paper(BOTH, "bb", [[0, 0], [1, 0], [1, 1]], HUGE), False)

    def test_long(self):
        paper = change_paper(LOOP, "ab" * 100)
        self.assertEqual(paper, [[read // 2] for read in range(201)])
        self.assertEqual([is_change_paper(LOOP, "ab" * 100, paper, many) for many in (100, 101)], [True, False])
        paper = change_paper(PieceWeb(PIECES_60_WORDS), "z" * 200)
        self.assertEqual([len(paper), {len(row) for row in paper}, min(paper[-1])], [201, {60}, 200])

    def test_any_value(self):
        paper = [[0, 0], [1, 0], [1, 1]]
        rows = [paper[:2], paper + [[1, 1]], [row + [0] for row in paper], [row[:1] for row in paper],
                [[0, 0], [1, 0, 0], [1, 1]], [[0, 0], [1, 0], [1]], [[0, 0], [], [1, 1]], [[0, 1], [1, 0], [1, 1]],
                [[0, 0], [1, 0], [2, 1]], [[0, 0], [2, 0], [1, 1]], [[0, 0], [1, 0], [1, HUGE]],
                [[0, 0], [-1, 0], [1, 1]],
                [[0, 0], [True, 0], [1, 1]], [[0, False], [1, 0], [1, 1]], [[0, 0], [1, 0], [1, True]], [[], [], []]]
        values = ODD + NUMBERS + STRINGS + LISTS + rows + changed(paper, ODD + NUMBERS + STRINGS + LISTS)
        for value in values:
            # A number may be lower and right as well.
            if repr(value) in (repr(paper), repr([[0, 0], [0, 0], [1, 1]])):
                continue
            shown = repr(value)
            with self.subTest(value=value):
                self.assertIs(is_change_paper(BOTH, "bb", value, 1), False)
                self.assertIs(is_change_paper(pieceweb=BOTH, word="bb", value=value, many=1), False)
                self.assertEqual(repr(value), shown)


def all_pairs():
    """A text of the letters a to i in which each of the 81 pairs stands just once."""
    text = "a"
    while True:
        more = [letter for letter in "ihgfedcba" if text[-1] + letter not in text]
        if not more:
            return text
        text += more[0]


class Readings(unittest.TestCase):
    def check(self, lot, least):
        told = mended_readings(lot, least)
        solid = lot.solid(least)
        shop = PieceWeb(solid)
        self.assertEqual([row[:2] for row in told], lot.readings())
        for row in told:
            self.assertEqual([type(row), len(row)], [tuple, 4])
            text, _, better, changes = row
            if text == "":
                self.assertEqual((better, changes), ("", 0))
                continue
            self.assertEqual(changes, least_changes(shop, text))
            self.assertEqual(distance(text, better), changes)
            self.assertTrue({piece for piece, _ in line_pieces(better, lot.size)} <= set(solid))
            self.assertTrue(any(letters_of(shop, walk) == better for walk in walks(shop.web(), len(better))
                                if len(walk) == len(better)))

    def test_all_readings(self):
        self.check(Lot(2, [("abab", 3), ("acab", 1), ("", 2), ("b", 1), ("z", 20)]), 3)
        self.check(Lot(3, [("aabab", 2), ("aab", 1), ("bbb", 1), ("", 1)]), 2)
        self.check(Lot(2, [("ab", 1), ("cd", 1), ("abcd", 1)]), 2)
        for word in words("ab", 4):
            self.check(Lot(2, [("ab", 2), (word, 1), ("", 1)]), 2)

    def test_what_is_a_walk_stays(self):
        told = mended_readings(Lot(2, [("abab", 3), ("ba", 1), ("b", 1), ("", 1), ("abba", 1)]), 4)
        self.assertEqual([row[2:] for row in told[:2] + told[3:]], [("", 0), ("abab", 0), ("b", 0), ("ba", 0)])
        self.assertEqual([told[2][0], told[2][3]], ["abba", 1])

    def test_one_piece(self):
        # No walk of the piece ab reads two letters, and of a and b one stays.
        self.assertEqual(mended_readings(Lot(2, [("", 20), ("ab", 1)]), 1), [("", 20, "", 0), ("ab", 1, "b", 1)])

    def test_nothing_solid(self):
        for lot, least in ((Lot(2, []), 1), (Lot(2, [("", 3)]), 1), (Lot(3, [("ab", 20)]), 1), (Lot(2, [("ab", 2)]), 3),
                           (Lot(2, [("ab", 2)]), HUGE), (Lot(2, [("a" * 201, 1)]), 201)):
            check_fails(self, NothingSolid, {}, mended_readings, lot, least)
            check_fails(self, NothingSolid, {}, mended_readings, lot=lot, least=least)

    def test_many_pieces(self):
        text = all_pairs()
        self.assertEqual([len(text), len(Lot(2, [(text, 1)]).solid(1))], [82, 81])
        lot = Lot(2, [(text[1:], 1)])
        self.assertEqual(len(lot.solid(1)), 80)
        self.assertEqual(len(mended_readings(lot, 1)), 1)
        lots = [Lot(2, [(text, 1)]), Lot(2, [(text, 1), ("a" * 201, 1)])]
        for lot in lots:
            check_fails(self, TooMany, {"what": "pieces", "limit": 80}, mended_readings, lot, 1)
        check_fails(self, TooMany, {"what": "letters", "limit": 200}, mended_readings, lots[1], 2)

    def test_many_words(self):
        full = Lot(4, [(SIXTY + SIXTY[:3], 2)])
        self.assertEqual(mended_readings(full, 2), [(SIXTY + SIXTY[:3], 2, SIXTY + SIXTY[:3], 0)])
        for more in ([("zzzz", 1)], [("zzzz", 1), ("a" * 201, 1)]):
            lot = both_lots(full, Lot(4, more))
            check_fails(self, TooMany, {"what": "words", "limit": 60}, mended_readings, lot, 1)
        self.assertEqual(mended_readings(both_lots(full, Lot(4, [("zzzz", 1)])), 2)[1][3], 4)

    def test_long_readings(self):
        self.assertEqual(mended_readings(Lot(2, [("ab" * 100, 1)]), 1), [("ab" * 100, 1, "ab" * 100, 0)])
        for text in ("ab" * 100 + "a", "a" * 400):
            lot = Lot(2, [("ab", 2), (text, 1)])
            for least in (1, 2):
                check_fails(self, TooMany, {"what": "letters", "limit": 200}, mended_readings, lot, least)

    def test_as_told(self):
        lot = Lot(2, [("abab", 20)])
        self.assertEqual(mended_readings(both_lots(lot, lot), 40), [("abab", 40, "abab", 0)])
        mended_readings(lot, 1).append(7)
        self.assertEqual([mended_readings(lot, 1), lot.readings()], [[("abab", 20, "abab", 0)], [("abab", 20)]])


class Parameters(unittest.TestCase):
    def test_parameters(self):
        rows = [("pieceweb", SHOP, WRONG_PIECE_WEBS, InvalidPieceWeb), ("word", "a" * 200, WRONG_WORDS, InvalidWord)]
        for call in (least_changes, mended, change_paper):
            check_parameters(self, call, rows)
        check_parameters(self, is_mending, rows + [("value", None, [], None)])
        check_parameters(self, is_change_paper, rows + [
            ("value", None, [], None), ("many", 0, WRONG_COUNTS, InvalidMany)])
        check_parameters(self, walk_letters, [rows[0], ("walk", [0, 2], WRONG_SHOP_WALKS, InvalidWalk)])
        check_parameters(self, mended_readings, [
            ("lot", Lot(2, [("ab", 1)]), WRONG_LOTS, InvalidLot), ("least", 1, WRONG_LEASTS, InvalidLeast)])

    def test_ahead_of_what_is_told(self):
        for lot in (Lot(2, []), Lot(2, [("a" * 400, 1)]), Lot(2, [(all_pairs(), 1)])):
            check_fails(self, InvalidLeast, {"value": 0}, mended_readings, lot, 0)
        check_fails(self, InvalidMany, {"value": True}, is_change_paper, BOTH, "bb", [[0, 0], [1, 0], [1, 1]], True)

    def test_words(self):
        self.assertEqual([least_changes(BOTH, "a"), least_changes(BOTH, "ab" * 100)], [0, 0])
        for word in ("", "a" * 201):
            for call in (least_changes, mended, change_paper):
                check_fails(self, InvalidWord, {"value": word}, call, BOTH, word)
            check_fails(self, InvalidWord, {"value": word}, is_mending, BOTH, word, None)
            check_fails(self, InvalidWord, {"value": word}, is_change_paper, BOTH, word, None, 0)
