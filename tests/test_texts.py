"""Points [9a1] to [9a3]: webs, walks and papers as texts."""

import re
import unittest
from itertools import product

from suretexts.errors import InvalidSort, InvalidThing, TooMany, UnreadText
from suretexts.papers import rank_paper, yes_paper
from suretexts.texts import is_of_sort, read, written
from suretexts.webs import Web
from suretexts.written import reading_of, thing_written
from tests.support import HUGE, LISTS, NUMBERS, ODD, STRINGS, as_tuples, changed, check_fails, check_parameters
from tests.webs import FEW, SMALL, plainly_sure, walks

SORTS = ["web", "walk", "yes", "ranks"]
PAIR = Web(2, [(0, 1), (1, 0)])
GOOD = {"web": PAIR, "walk": [0, 1, 12], "yes": [(1, 1, []), (1, 2, [0, 3])],
        "ranks": ([((0, 0), 1), ((0, 1), 0)], [(0, 1)])}
WRITTEN = {"web": "(2 [(0 1) (1 0)])", "walk": "[0 1 12]", "yes": "[(1 1 []) (1 2 [0 3])]",
           "ranks": "([((0 0) 1) ((0 1) 0)] [(0 1)])"}
WRONG_SORTS = ODD + NUMBERS + LISTS + ["", "a", "Web", "webs", "walk ", " walk", "all", ("web",), ["walk"], "no",
                                       "yes\n"]

TOKEN = r"(?:0|[1-9][0-9]{0,29}|[a-z]+|-)"
LIST = re.compile(rf"\[(?:{TOKEN}(?: {TOKEN})*)?\]|\((?:{TOKEN}(?: {TOKEN})*)?\)")


def is_written(text):
    """Whether the string is a written thing: brackets are put away from within, until one thing is left."""
    ahead = None
    while ahead != text:
        # No sign beside a bracket makes one thing with what is put for it.
        ahead, text = text, LIST.sub("-", text)
    return re.fullmatch(TOKEN, text) is not None


def can_be_gone_on_with(text):
    """Whether the string is a begin of a written thing: one that lacks a thing, or brackets, or both, or nothing."""
    open_ones = []
    for sign in text:
        if sign in "[(":
            open_ones.append("])"["[(".index(sign)])
        elif sign in "])" and open_ones:
            open_ones.pop()
    return any(is_written(text + thing + "".join(open_ones[::-1])) for thing in ("", "0"))


def unread(text):
    """The unread position of a string that is not of the sort, sign by sign."""
    for at in range(len(text)):
        if not can_be_gone_on_with(text[:at + 1]):
            return at
    return None if is_written(text) else len(text)


def plain_form(sort, value):
    """The sentence of [9a1], for the values of the sorts."""
    if sort == "web":
        value = (value.places, value.ties())

    def told(thing, is_list):
        parts = " ".join(str(part) if isinstance(part, int) else told(part, isinstance(part, list)) for part in thing)
        return f"[{parts}]" if is_list else f"({parts})"
    return told(value, isinstance(value, list))


def examples():
    told = [("web", web) for web in SMALL[::9] + FEW + [Web(1, []), Web(60, [(59, 0)] * 80)]]
    for web in FEW[:4]:
        for walk in walks(web, 4):
            told.append(("walk", walk))
            if plainly_sure(web, walk):
                told += [("yes", yes_paper(web, walk)), ("ranks", rank_paper(web, walk))]
    told += [("walk", [HUGE]), ("walk", [0] * 400), ("yes", []), ("yes", [(HUGE, 0, [HUGE] * 60)]), ("ranks", ([], [])),
             ("yes", [(0, 0, [])] * 400), ("ranks", ([((HUGE, 0), 0)], [(0, HUGE)])),
             ("ranks", ([((0, 0), 1)] * 400, [])),
             ("ranks", ([], [(3, 4)] * 400))]
    return told


EXAMPLES = examples()


class Sorts(unittest.TestCase):
    def test_of_its_sort_alone(self):
        for sort, value in EXAMPLES:
            for other in SORTS:
                self.assertIs(is_of_sort(other, value), other == sort)
            if sort != "web" and sort != "ranks":
                self.assertIs(is_of_sort(sort, as_tuples(value)), True)
        self.assertIs(is_of_sort("ranks", (tuple(GOOD["ranks"][0]), tuple(GOOD["ranks"][1]))), True)

    def test_limits(self):
        for sort, value, wanted in (
                ("walk", [], False), ("walk", [0], True), ("walk", [0] * 400, True), ("walk", [0] * 401, False),
                ("walk", [HUGE], True), ("walk", [HUGE + 1], False), ("yes", [(0, 0, [])] * 400, True),
                ("yes", [(0, 0, [])] * 401, False), ("yes", [(0, 0, [0] * 60)], True),
                ("yes", [(0, 0, [0] * 61)], False),
                ("yes", [(0, HUGE + 1, [])], False), ("yes", [(0, 0, [HUGE + 1])], False), ("yes", [], True),
                ("ranks", ([((0, 0), 0)] * 400, [(0, 0)] * 400), True), ("ranks", ([((0, 0), 0)] * 401, []), False),
                ("ranks", ([], [(0, 0)] * 401), False), ("ranks", ([((0, HUGE + 1), 0)], []), False),
                ("ranks", ([((0, 0), HUGE + 1)], []), False), ("ranks", ([], [(HUGE + 1, 0)]), False)):
            self.assertIs(is_of_sort(sort, value), wanted)
            if not wanted:
                check_fails(self, InvalidThing, {"value": value}, written, sort, value)

    def test_any_value(self):
        values = ODD + NUMBERS + STRINGS + LISTS + [
            (0, 1, 2), [(1, 1)], [(1, 1, [], [])], [[1, 1, []]], [(1, 1, 0)], [([1], 1, [])], [(1, 1, [(0,)])],
            ([], [], []),
            ([],), [[], []], ([((0, 0), 1)], [[0, 1]]), ([[(0, 0), 1]], []), ([([0, 0], 1)], []),
            ([((0, 0, 0), 1)], []),
            ([((0, 0), 1, 1)], []), ([], [(0, 1, 2)]), ([((0, 0),)], []), (2, [(0, 1)]), "(1 [])", "[0 1]", {0: 1},
            [[0, 1]]]
        for sort, value in GOOD.items():
            values += changed(value, [True, False, None, -1, "0", [], (), [0], (0,), HUGE + 1])
        for value in values:
            shown = repr(value)
            for sort in SORTS:
                told = is_of_sort(sort, value)
                self.assertIs(type(told), bool)
                self.assertIs(is_of_sort(sort=sort, value=value), told)
                if told:
                    self.assertEqual(written(sort, value), plain_form(sort,
                        value if sort == "web" else as_listed(sort, value)))
                else:
                    check_fails(self, InvalidThing, {"value": value}, written, sort, value)
            self.assertEqual(repr(value), shown)

    def test_wrong_ones(self):
        for sort, values in (
                ("web", [(2, [(0, 1)]), [2, [(0, 1)]], "(1 [])", 0, []]),
                ("walk", [{0: 1}, [[0]], [(0,)], "0", 0, [0, "1"]]),
                ("yes", [[(1, 1)], [(1, 1, [], [])], [[1, 1, []]], [(1, 1, 0)], [([1], 1, [])], [(1, 1, [(0,)])],
                         [(1, 1, {})],
                         [()], ((),), [(1, (1,), [])], {}, (1, 1, [])]),
                ("ranks", [([],), ([], [], []), [[], []], ([], {}), ({}, []), ([((0, 0), 1)], [[0, 1]]),
                           ([[(0, 0), 1]], []),
                           ([([0, 0], 1)], []), ([((0, 0, 0), 1)], []), ([((0,), 1)], []), ([((0, 0), 1, 1)], []),
                           ([((0, 0),)], []), ([], [(0, 1, 2)]), ([], [(0,)]), ([], [0]), ([0], []), ([(0, 0)], []),
                           ([], [((0, 0), 1)]), (0, 0), []])):
            for value in values:
                self.assertEqual([sort, value, is_of_sort(sort, value)], [sort, value, False])

    def test_none_of_these(self):
        for sort, value in GOOD.items():
            for other in changed(value, [True, False, None, -1, "0", -HUGE, HUGE + 1]):
                self.assertIs(is_of_sort(sort, other), False)
        for value in (True, 1, None, [True], [0, False], [0, -1], ["0"], [None]):
            self.assertIs(is_of_sort("walk", value), False)


def as_listed(sort, value):
    """The value with lists where its sort has lists."""
    if sort == "walk":
        return list(value)
    if sort == "yes":
        return [(i, j, list(lot)) for i, j, lot in value]
    return (list(value[0]), list(value[1]))


class Written(unittest.TestCase):
    def test_each_sort(self):
        for sort, text in WRITTEN.items():
            self.assertEqual([written(sort, GOOD[sort]), read(sort, text)], [text, GOOD[sort]])
            self.assertEqual(repr(type(read(sort, text))), repr(type(GOOD[sort])))

    def test_there_and_back(self):
        for sort, value in EXAMPLES:
            text = written(sort, value)
            self.assertEqual(text, plain_form(sort, value))
            told = read(sort, text)
            self.assertEqual(told, value)
            if sort != "web":
                self.assertEqual(repr(told), repr(value))

    def test_tuples_as_lists(self):
        self.assertEqual([written("walk", (0, 1)), written("yes", ((1, 1, (0, 2)),)),
                          written("ranks", ((((0, 0), 1),), ()))],
                         ["[0 1]", "[(1 1 [0 2])]", "([((0 0) 1)] [])"])

    def test_too_many_signs(self):
        # Each COUNT of n digits takes n + 1 signs with the blank, but the last one; the brackets take two.
        self.assertEqual(len(written("walk", [10 ** 18] * 399 + [10 ** 17])), 2 + 399 * 20 + 18)
        for sort, value in (("walk", [10 ** 19] * 400), ("walk", [HUGE] * 400), ("yes", [(0, 0, [0] * 60)] * 400),
                            ("ranks", ([((10, 10), 10)] * 400, [(10, 10)] * 400)), ("yes", [(HUGE, HUGE, [])] * 400)):
            self.assertIs(is_of_sort(sort, value), True)
            check_fails(self, TooMany, {"what": "signs", "limit": 8000}, written, sort, value)
            check_fails(self, TooMany, {"what": "signs", "limit": 8000}, written, sort=sort, value=value)

    def test_just_8000_signs(self):
        walk = [10 ** 18] * 399 + [10 ** 17]
        self.assertEqual(len(written("walk", walk)), 8000)
        self.assertEqual(read("walk", written("walk", walk)), walk)
        check_fails(self, TooMany, {"what": "signs", "limit": 8000}, written, "walk", walk[:-1] + [10 ** 18])

    def test_new_lists(self):
        read("yes", WRITTEN["yes"])[1][2].append(7)
        self.assertEqual(read("yes", WRITTEN["yes"]), GOOD["yes"])


class Unread(unittest.TestCase):
    def check(self, text):
        wanted = unread(text)
        for sort in SORTS:
            try:
                told = read(sort, text)
            except UnreadText as error:
                self.assertEqual((text, error.position), (text, wanted))
            else:
                self.assertIsNone(wanted)
                self.assertEqual(plain_form(sort, told), text)

    def test_all_short_strings(self):
        for many in range(5):
            for signs in product("01a-[]() ", repeat=many):
                self.check("".join(signs))

    def test_some_longer_strings(self):
        for at, signs in enumerate(product("0[]() ", repeat=6)):
            if at % 7 == 0:
                self.check("".join(signs))

    def test_changed_texts(self):
        for text in list(WRITTEN.values()) + ["[ab - (1 [c])]", "-", "ab", "120"]:
            for at in range(len(text) + 1):
                self.check(text[:at])
                self.check(text[:at] + text[at + 1:])
                for sign in "0aA- []()\n":
                    self.check(text[:at] + sign + text[at:])
                    self.check(text[:at] + sign + text[at + 1:])

    def test_positions(self):
        for text, position in (
                ("", 0), (" ", 0), ("]", 0), ("[", 1), ("[ ", 1), ("[0", 2), ("[0 ", 3), ("[0  ", 3), ("[0 ]", 3),
                ("[0)", 2),
                ("[00", 2), ("[01]", 2), ("00", 1), ("0 ", 1), ("[0]x", 3), ("[0] ", 3), ("[0a]", 2), ("[a0]", 2),
                ("[--]", 2),
                ("[0,1]", 2), ("[A]", 1), ("[-1]", 2), ("[(0]", 3), ("[0", 2), ("(2 [(0 1)", 9), ("[1]\n", 3), ("+", 0),
                ("{", 0), ("[{]", 1), ("[z{]", 2), ("`", 0), ("[/]", 1), ("[:]", 1), ("[9:]", 2), ("[()()]", 3),
                ("[0(", 2), ("a[", 1), ("-a", 1), ("[%", 1), ("[.", 1)):
            for sort in SORTS:
                check_fails(self, UnreadText, {"position": position}, read, sort, text)

    def test_written_but_of_another_sort(self):
        texts = ["0", "a", "z", "[az]", "-", "[]", "()", "[[]]", "(0 1)", "[a]", "[-]", "[0 -]", "(0 [])", "(61 [])",
                 "(2 [(0 2)])",
                 "(2 ((0 1)))", "(2 [[0 1]])", "[2 []]", "(2 [] [])", "(1 1 [])", "[(1 1)]", "[(1 1 ())]", "([] ())",
                 "(() [])", "(a [])", "([(0 1)] [])", "[" + "0 " * 400 + "0]", "[(0 0 [" + "0 " * 60 + "0])]",
                 "[" * 16 + "]" * 16]
        for text in texts:
            for sort in SORTS:
                if (sort, text) != ("yes", "[]"):
                    check_fails(self, UnreadText, {"position": None}, read, sort, text)
        for sort, text in WRITTEN.items():
            for other in SORTS:
                if other != sort:
                    check_fails(self, UnreadText, {"position": None}, read, other, text)
        self.assertEqual(read("yes", "[]"), [])

    def test_webs_in_bounds(self):
        self.assertEqual(read("web", "(60 [(59 59)])"), Web(60, [(59, 59)]))
        self.assertEqual(read("web", "(2 [" + " ".join(["(0 1)"] * 80) + "])").many, 80)
        for text in ("(0 [])", "(61 [])", "(2 [" + " ".join(["(0 1)"] * 81) + "])", "(2 [(2 0)])", "(2 [(0 1 1)])",
                     "(- [])"):
            check_fails(self, UnreadText, {"position": None}, read, "web", text)

    def test_thirty_digits(self):
        for digits in ("9" * 30, "1" + "0" * 29, "123456789012345678901234567890"):
            self.assertEqual(read("walk", f"[{digits} 0]"), [int(digits), 0])
            for more in ("0", "5"):
                check_fails(self, UnreadText, {"position": 31}, read, "walk", f"[{digits}{more}]")
                check_fails(self, UnreadText, {"position": 30}, read, "web", digits + more)
        check_fails(self, UnreadText, {"position": None}, read, "walk", "9" * 30)
        check_fails(self, UnreadText, {"position": 1}, read, "walk", "0" * 31)

    def test_long_strings(self):
        check_fails(self, UnreadText, {"position": 8000}, read, "walk", "[" * 8000)
        check_fails(self, UnreadText, {"position": None}, read, "walk", "[" * 4000 + "]" * 4000)
        check_fails(self, UnreadText, {"position": 30}, read, "walk", "1" * 8000)
        check_fails(self, UnreadText, {"position": None}, read, "walk", "a" * 8000)
        check_fails(self, UnreadText, {"position": 7999}, read, "walk", "[" + "0 " * 3999 + "]")
        check_fails(self, UnreadText, {"position": None}, read, "walk", "[" + "0 " * 3998 + "0]")

    def test_things_of_no_sort(self):
        for text, thing in (("-", None), ("abz", "abz"), ("0", 0), ("190", 190),
                            ("[a - (0 [])]", ["a", None, (0, [])]), ("()", ())):
            self.assertEqual([reading_of(text), thing_written(thing)], [(None, thing), text])

    def test_no_string(self):
        for value in ODD + NUMBERS + LISTS + [GOOD["walk"], PAIR]:
            for sort in SORTS:
                check_fails(self, UnreadText, {"position": None}, read, sort, value)
                check_fails(self, UnreadText, {"position": None}, read, sort=sort, text=value)


class Parameters(unittest.TestCase):
    def test_parameters(self):
        for sort in SORTS:
            check_parameters(self, is_of_sort, [("sort", sort, WRONG_SORTS, InvalidSort), ("value", None, [], None)])
            wrongs = ODD + NUMBERS + STRINGS + [[0, -1], [True], ((),)]
            check_parameters(self, written, [
                ("sort", sort, WRONG_SORTS, InvalidSort), ("value", GOOD[sort], wrongs, InvalidThing)])
            check_parameters(self, read, [("sort", sort, WRONG_SORTS, InvalidSort), ("text", WRITTEN[sort], [], None)])

    def test_the_sort_first(self):
        for wrong in WRONG_SORTS:
            check_fails(self, InvalidSort, {"value": wrong}, read, wrong, None)
            check_fails(self, InvalidSort, {"value": wrong}, read, wrong, "[")
            check_fails(self, InvalidSort, {"value": wrong}, written, wrong, [HUGE] * 400)
