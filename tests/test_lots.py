"""Points [1b1] to [1b3]: lots of readings."""

import unittest

from suretexts.errors import (
    FewTimes, InvalidLeast, InvalidLot, InvalidReadings, InvalidSize, InvalidText, InvalidTimes, NotRead, TooMany,
    UnlikeSizes)
from suretexts.lots import Lot, both_lots, with_reading, without_reading
from suretexts.pieced import line_pieces
from tests.support import (
    HUGE, LISTS, NUMBERS, ODD, STRINGS, WRONG_LEASTS, WRONG_LOTS, WRONG_SIZES, WRONG_TEXTS, WRONG_TIMES, check_fails,
    check_parameters, words)

TEXTS = words("abcd", 3)[:60]
READINGS = [("abab", 2), ("ba", 1), ("", 3), ("ba", 4)]

WRONG_READINGS = ODD + NUMBERS + STRINGS + [[0], ["a"], [[]], [()], ((1, 2),), ("ab", 1)] + [
    [("ab", 1), wrong] for wrong in (
        ("ab",), ("ab", 1, 1), ["ab", 1], ("ab", 0), ("ab", 21), ("ab", True), ("ab", -1), ("ab", HUGE), ("ab", "1"),
        ("ab", None), ("aB", 1), (None, 1), ("a" * 401, 1), (["ab"], 1), (1, "ab"), (("ab", 1), ("ab", 1)), None)
] + [[("ab", 1)] * 61, {("ab", 1): 1}]


def full_lot(size, times):
    """A lot of sixty unlike texts, each read so many times: twenty, or a multiple."""
    lot = twenty = Lot(size, [(text, 20) for text in TEXTS])
    while lot.times_of("a") < times:
        lot = both_lots(lot, twenty)
    return lot


class Readings(unittest.TestCase):
    def test_told_once_and_sorted(self):
        lot = Lot(2, READINGS)
        self.assertEqual(lot.readings(), [("", 3), ("abab", 2), ("ba", 5)])
        self.assertEqual([lot.times_of(text) for text in ("", "abab", "ba", "ab", "aba")], [3, 2, 5, 0, 0])
        self.assertEqual(lot.size, 2)

    def test_none(self):
        for readings in ([], ()):
            lot = Lot(8, readings)
            self.assertEqual([lot.readings(), lot.pieces(), lot.solid(1)], [[], [], []])
            self.assertEqual([lot.times_of(""), lot.size], [0, 8])

    def test_sixty_of_twenty(self):
        self.assertEqual(Lot(2, [("ab", 20)] * 60).readings(), [("ab", 1200)])
        self.assertEqual(Lot(2, tuple((text, 20) for text in TEXTS)).readings(), sorted((text, 20) for text in TEXTS))

    def test_longest_text(self):
        self.assertEqual(Lot(8, [("a" * 400, 20)]).pieces(), [("a" * 8, 393 * 20)])

    def test_sequence_says_nothing(self):
        self.assertEqual(Lot(2, READINGS), Lot(2, READINGS[::-1]))
        self.assertEqual(Lot(2, READINGS), Lot(2, tuple(Lot(2, READINGS).readings())))

    def test_equal(self):
        lot = Lot(2, READINGS)
        self.assertIs(lot == Lot(2, READINGS), True)
        self.assertIs(lot != Lot(2, READINGS), False)
        for other in (Lot(3, READINGS), Lot(2, READINGS[1:]), Lot(2, READINGS + [("", 1)]), Lot(2, [])):
            self.assertIs(lot == other, False)
            self.assertIs(lot != other, True)
        for other in ODD[:-3] + NUMBERS + STRINGS + LISTS + [lot.readings(), (2, lot.readings())]:
            self.assertIs(lot == other, False)
            self.assertIs(other == lot, False)

    def test_copied_and_new(self):
        readings = list(READINGS)
        lot = Lot(2, readings)
        readings.append(("zz", 1))
        lot.readings().append(("zz", 1))
        lot.pieces().clear()
        lot.solid(1).clear()
        self.assertEqual(lot, Lot(2, READINGS))
        self.assertEqual([lot.pieces(), lot.solid(1)], [[("ab", 4), ("ba", 7)], ["ab", "ba"]])

    def test_parameters(self):
        check_parameters(self, Lot, [
            ("size", 2, WRONG_SIZES, InvalidSize), ("readings", READINGS, WRONG_READINGS, InvalidReadings)])
        check_parameters(self, Lot(2, READINGS).times_of, [("text", "ab", WRONG_TEXTS, InvalidText)])

    def test_size_is_only_read(self):
        with self.assertRaises(AttributeError):
            Lot(2, []).size = 3


class PiecesOfLots(unittest.TestCase):
    def test_each_reading_as_often_as_it_is_read(self):
        for size in range(2, 9):
            readings = [(text, 1 + at % 20) for at, text in enumerate(words("ab", 4, 0) + ["abababab", "aaaaaaaaa"])]
            often = {}
            for text, times in readings:
                for piece, there in line_pieces(text, size):
                    often[piece] = often.get(piece, 0) + there * times
            self.assertEqual(Lot(size, readings).pieces(), sorted(often.items()))

    def test_a_line_not_round(self):
        self.assertEqual(Lot(3, [("aba", 2), ("ab", 9), ("", 1)]).pieces(), [("aba", 2)])

    def test_solid(self):
        lot = Lot(2, READINGS)
        self.assertEqual([lot.solid(least) for least in (1, 4, 5, 7, 8, HUGE)],
                         [["ab", "ba"], ["ab", "ba"], ["ba"], ["ba"], [], []])
        for least in range(1, 10):
            self.assertTrue(set(lot.solid(least + 1)) <= set(lot.solid(least)))

    def test_parameters(self):
        check_parameters(self, Lot(2, READINGS).solid, [("least", 1, WRONG_LEASTS, InvalidLeast)])


class ComeAndGo(unittest.TestCase):
    def test_with_a_reading(self):
        lot = Lot(2, [("ab", 1)])
        self.assertEqual(with_reading(lot, "ab", 20).readings(), [("ab", 21)])
        self.assertEqual(with_reading(lot, "", 1).readings(), [("", 1), ("ab", 1)])
        self.assertEqual(lot.readings(), [("ab", 1)])
        self.assertEqual(with_reading(Lot(5, []), "zz", 2).size, 5)

    def test_without_a_reading(self):
        lot = Lot(2, [("ab", 5), ("b", 1)])
        self.assertEqual(without_reading(lot, "ab", 4).readings(), [("ab", 1), ("b", 1)])
        self.assertEqual(without_reading(lot, "ab", 5).readings(), [("b", 1)])
        self.assertEqual(without_reading(without_reading(lot, "ab", 5), "b", 1), Lot(2, []))
        self.assertEqual(lot.readings(), [("ab", 5), ("b", 1)])

    def test_with_and_without(self):
        for lot in (Lot(2, []), Lot(2, READINGS), Lot(7, [("abc", 20)])):
            for text in ("", "ba", "abc"):
                for times in (1, 20):
                    self.assertEqual(without_reading(with_reading(lot, text, times), text, times), lot)

    def test_both(self):
        lot, other = Lot(2, READINGS), Lot(2, [("ba", 20), ("cab", 1)])
        both = both_lots(lot, other)
        self.assertEqual(both.readings(), [("", 3), ("abab", 2), ("ba", 25), ("cab", 1)])
        self.assertEqual(both, both_lots(other, lot))
        often = dict(both.pieces())
        for piece in often:
            self.assertEqual(often[piece], dict(lot.pieces()).get(piece, 0) + dict(other.pieces()).get(piece, 0))
        self.assertEqual(both_lots(lot, Lot(2, [])), lot)
        self.assertEqual(both_lots(lot, lot).times_of("ba"), 10)
        self.assertEqual([lot, other], [Lot(2, READINGS), Lot(2, [("ba", 20), ("cab", 1)])])

    def test_not_read(self):
        lot = Lot(2, [("ab", 2)])
        check_fails(self, NotRead, {"text": "ba"}, without_reading, lot, "ba", 1)
        check_fails(self, NotRead, {"text": ""}, without_reading, lot, "", 20)
        check_fails(self, NotRead, {"text": "ab"}, without_reading, without_reading(lot, "ab", 2), "ab", 1)

    def test_few_times(self):
        lot = Lot(2, [("ab", 2)])
        check_fails(self, FewTimes, {}, without_reading, lot, "ab", 3)
        check_fails(self, FewTimes, {}, without_reading, lot, "ab", 20)
        self.assertEqual(lot.readings(), [("ab", 2)])

    def test_unlike_sizes(self):
        check_fails(self, UnlikeSizes, {}, both_lots, Lot(2, []), Lot(3, []))
        # Sizes are told ahead of the limits.
        check_fails(self, UnlikeSizes, {}, both_lots, full_lot(2, 1200), Lot(3, [("zzz", 1)]))

    def test_sixty_unlike_texts(self):
        lot = full_lot(2, 20)
        self.assertEqual(len(lot.readings()), 60)
        check_fails(self, TooMany, {"what": "readings", "limit": 60}, with_reading, lot, "zzz", 1)
        check_fails(self, TooMany, {"what": "readings", "limit": 60}, both_lots, lot, Lot(2, [("zzz", 1)]))
        self.assertEqual(with_reading(lot, "a", 1).times_of("a"), 21)
        fewer = without_reading(lot, "a", 20)
        self.assertEqual(len(with_reading(fewer, "zzz", 1).readings()), 60)
        self.assertEqual(both_lots(fewer, Lot(2, [("zzz", 1)])).times_of("zzz"), 1)

    def test_twelve_hundred_times(self):
        lot = Lot(2, [("ab", 20)] * 60)
        check_fails(self, TooMany, {"what": "times", "limit": 1200}, with_reading, lot, "ab", 1)
        check_fails(self, TooMany, {"what": "times", "limit": 1200}, both_lots, lot, Lot(2, [("ab", 1)]))
        self.assertEqual(with_reading(lot, "ba", 20).readings(), [("ab", 1200), ("ba", 20)])
        less = without_reading(lot, "ab", 1)
        self.assertEqual([less.times_of("ab"), with_reading(less, "ab", 1).times_of("ab")], [1199, 1200])
        check_fails(self, TooMany, {"what": "times", "limit": 1200}, with_reading, less, "ab", 2)

    def test_both_limits(self):
        lot = full_lot(2, 1200)
        self.assertEqual(lot.readings(), sorted((text, 1200) for text in TEXTS))
        self.assertEqual(len(lot.pieces()), len(Lot(2, [(text, 1) for text in TEXTS]).pieces()))
        other = Lot(2, [("a", 1), ("zzz", 1)])
        check_fails(self, TooMany, {"what": "readings", "limit": 60}, both_lots, lot, other)
        check_fails(self, TooMany, {"what": "times", "limit": 1200}, both_lots, lot, Lot(2, [("a", 1)]))
        self.assertEqual(both_lots(lot, Lot(2, [])), lot)

    def test_parameters(self):
        lot = Lot(2, [("ab", 20)])
        rows = [("lot", lot, WRONG_LOTS, InvalidLot), ("text", "ab", WRONG_TEXTS, InvalidText),
                ("times", 20, WRONG_TIMES, InvalidTimes)]
        check_parameters(self, with_reading, rows)
        check_parameters(self, without_reading, rows)
        check_parameters(self, both_lots, [
            ("lot", lot, WRONG_LOTS, InvalidLot), ("other", lot, WRONG_LOTS, InvalidLot)])

    def test_wrong_times_ahead_of_what_is_not_read(self):
        check_fails(self, InvalidTimes, {"value": 21}, without_reading, Lot(2, []), "ab", 21)
        check_fails(self, InvalidTimes, {"value": True}, with_reading, full_lot(2, 20), "zzz", True)
