"""Points [8b1] and [8b2]: words found in several texts."""

import unittest

from suretexts.errors import InvalidTexts, InvalidWord
from suretexts.finder import Finder, plain_places
from tests.support import LISTS, NUMBERS, ODD, STRINGS, WRONG_RINGS, check_parameters, words

WRONG_TEXT_LISTS = ODD + NUMBERS + STRINGS + [value for value in LISTS if value != ["a"]] + [
    "ab", {"ab": 1}, [""] * 21, ("a",) * 21, ["a"] * 400, ["a" * 401], ["a" * 200, "", "b" * 201], ("a" * 400, "a"),
    ["ab", "aB"], ["ab", True], ["ab", None], ["ab", 1], [["ab"]], [("ab",)], ["ab", b"ab"], ["a b"], ["ab\n"], ["-"]]

LOTS = [["cabab", "ab"], ["abc"], [""], ["", "", "a"], ["aa", "aa", "aa"], ["banana", "an", "nab", ""],
        ["aaaa", "aab", "baa"],
        ["ab", "abab", "ababab"], ["abcabcabc", "cab"], words("ab", 2), ["c", "b", "a"], ["xyz" * 20, "zyx" * 20]]
SOUGHT = words("abc", 3) + ["abab", "banana", "bananas", "nana", "aaaaa", "z" * 400, "xyzxyz"]


def plain_rows(texts):
    rows = [(text[place:], number, place) for number, text in enumerate(texts) for place in range(len(text))]
    return [row[1:] for row in sorted(rows)]


def looked_up(texts, word):
    """All places at which the word is read, by a look at each."""
    return [(number, place) for number, text in enumerate(texts) for place in range(len(text))
            if text[place:].startswith(word)]


def plain_again(texts):
    """The least of the longest words that stand at two places."""
    all_words = {text[at:end] for text in texts for at in range(len(text)) for end in range(at + 1, len(text) + 1)}
    again = [word for word in all_words if len(looked_up(texts, word)) > 1]
    return min(again, key=lambda word: (-len(word), word), default="")


class Rows(unittest.TestCase):
    def test_sorted(self):
        for texts in LOTS:
            found = Finder(texts)
            rows = plain_rows(texts)
            self.assertEqual([found.texts(), found.rows()], [texts, rows])
            self.assertEqual(found.last_letters(), [texts[number][place - 1] if place else "" for number,
                                                    place in rows])
            self.assertEqual(Finder(tuple(texts)).rows(), rows)

    def test_alike_by_themselves(self):
        self.assertEqual(Finder(["aa", "aa", "a"]).rows(), [(0, 1), (1, 1), (2, 0), (0, 0), (1, 0)])
        self.assertEqual(Finder(["b", "ab", "b"]).rows(), [(1, 0), (0, 0), (1, 1), (2, 0)])

    def test_empty_texts(self):
        for texts in ([""], [""] * 20):
            found = Finder(texts)
            self.assertEqual([found.rows(), found.last_letters(), found.longest_again(), found.stretch_of("a"),
                              found.places_of("a"), found.how_often("a"), plain_places(texts, "a")],
                             [[], [], "", None, [], 0, []])

    def test_twenty_of_400_letters(self):
        texts = ["ab" * 10] * 20
        found = Finder(texts)
        self.assertEqual([len(found.rows()), found.rows(), found.longest_again()], [400, plain_rows(texts), "ab" * 10])
        self.assertEqual([found.how_often("ab" * 10), found.how_often("ab" * 9), found.how_often("a")], [20, 40, 200])
        found = Finder(["a" * 400])
        self.assertEqual([found.rows(), found.longest_again()], [[(0, at) for at in range(399, -1, -1)], "a" * 399])
        self.assertEqual([found.stretch_of("a" * 400), found.stretch_of("a" * 399)], [(399, 400), (398, 400)])


class Words(unittest.TestCase):
    def test_where_they_stand(self):
        for texts in LOTS:
            found = Finder(texts)
            for word in SOUGHT:
                places = looked_up(texts, word)
                self.assertEqual([found.places_of(word), plain_places(texts, word), plain_places(tuple(texts), word)],
                                 [places] * 3)
                self.assertEqual(found.how_often(word), len(places))
                told = found.stretch_of(word)
                if places:
                    self.assertEqual(sorted(found.rows()[told[0]:told[1]]), places)
                    self.assertEqual(type(told), tuple)
                else:
                    self.assertIsNone(told)

    def test_bounds(self):
        found = Finder(["b", "abc", "ab", "c"])
        self.assertEqual([found.stretch_of(word) for word in ("a", "ab", "abc", "abcd", "b", "bc", "c", "d", "aa",
            "ba")],
                         [(0, 2), (0, 2), (1, 2), None, (2, 5), (4, 5), (5, 7), None, None, None])


class Again(unittest.TestCase):
    def test_longest(self):
        for texts in LOTS + [[one, two] for one in words("ab", 3) for two in words("ab", 3)[::2]]:
            self.assertEqual(Finder(texts).longest_again(), plain_again(texts))

    def test_several_longest(self):
        self.assertEqual([Finder(["cdxcd", "abyab"]).longest_again(), Finder(["cd", "cd", "ab", "ab"]).longest_again()],
                         ["ab", "ab"])
        self.assertEqual(Finder(["bbabb", "aazaa"]).longest_again(), "aa")

    def test_none(self):
        for texts in (["abc"], ["a", "b"], ["", "a"], [""]):
            self.assertEqual(Finder(texts).longest_again(), "")

    def test_one_within_another(self):
        self.assertEqual([Finder(["cabac", "aba"]).longest_again(), Finder(["aaa"]).longest_again()], ["aba", "aa"])


class Finders(unittest.TestCase):
    def test_equal(self):
        found = Finder(["ab", "", "ab"])
        self.assertIs(found == Finder(("ab", "", "ab")), True)
        self.assertIs(found != Finder(["ab", "", "ab"]), False)
        for other in (Finder(["ab", "ab", ""]), Finder(["ab", ""]), Finder(["ab", "", "a"]), Finder(["abab"])):
            self.assertIs(found == other, False)
            self.assertIs(found != other, True)
        for other in ODD + NUMBERS + STRINGS + LISTS + [["ab", "", "ab"]]:
            self.assertIs(found == other, False)
            self.assertIs(other == found, False)

    def test_copied_and_new(self):
        texts = ["ab", "b"]
        found = Finder(texts)
        texts.append("c")
        for told in (found.texts(), found.rows(), found.last_letters(), found.places_of("b"),
                     plain_places(["ab"], "a")):
            told.append(7)
        self.assertEqual([found.texts(), found.rows(), found.last_letters(), found.places_of("b")],
                         [["ab", "b"], [(0, 0), (0, 1), (1, 0)], ["", "a", ""], [(0, 1), (1, 0)]])

    def test_parameters(self):
        for texts in (["ab", ""], [""] * 20, ("a" * 400, ""), ["a"]):
            check_parameters(self, Finder, [("texts", texts, WRONG_TEXT_LISTS, InvalidTexts)])
        check_parameters(self, plain_places, [
            ("texts", ["ab"], WRONG_TEXT_LISTS, InvalidTexts), ("word", "a" * 400, WRONG_RINGS, InvalidWord)])
        found = Finder(["ab"])
        for call in (found.stretch_of, found.places_of, found.how_often):
            check_parameters(self, call, [("word", "ab", WRONG_RINGS, InvalidWord)])
