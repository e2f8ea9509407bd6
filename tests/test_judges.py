"""Points [4b1] to [4b4]: papers of what is sure, judged."""

import ast
import unittest
from itertools import combinations, product

from suretexts.errors import InvalidWalk, InvalidWeb
from suretexts.judges import is_all_paper, is_no_paper, is_rank_paper, is_yes_paper
from suretexts.papers import all_paper, no_paper, rank_paper, yes_paper
from suretexts.webs import Web
from tests.papers import is_all_right, is_lot_right, is_rank_right, is_yes_right, pairs_of
from tests.support import HUGE, LISTS, NUMBERS, ODD, STRINGS, as_lists, as_tuples, changed, check_parameters
from tests.test_avoiding import some
from tests.test_greatest import BRANCHED, CUT, LINE, RINGS
from tests.test_language import TREES
from tests.test_papers import CASES, RING_60, around
from tests.test_roads import leads_around
from tests.test_webs import WRONG_ROUNDS, WRONG_WALKS, WRONG_WEBS
from tests.webs import CLOSE, FEW, OPEN, goes_round, is_lacking, plainly_sure, walks

TWO = Web(3, [(0, 1), (1, 0), (0, 2), (2, 0)])
EYES = Web(1, [(0, 0), (0, 0)])
EYE = ([((0, 0), 1), ((0, 1), 0)], [(0, 1), (1, 0)])
# No numbers that could stand in a paper, and nothing that is a list or a tuple.
ODDS = ODD + [HUGE, -1, "", "ab"]


class Judging(unittest.TestCase):
    def check_never(self, call, *args, values):
        for value in values:
            shown = repr(value)
            with self.subTest(call=call, value=value):
                self.assertIs(call(*args, value), False)
                self.assertEqual(repr(value), shown)

    def check_kinds(self, call, *args):
        """Of a right paper, the last one of the arguments, tuples can stand for lists, but not lists for tuples."""
        args, value = args[:-1], args[-1]
        self.assertIs(call(*args, value), True)
        self.assertIs(call(*args, as_tuples(value)), True)
        self.assertIs(call(*args, as_lists(value)), value == as_lists(value))
        self.check_never(call, *args, values=ODD + NUMBERS + STRINGS + changed(value, ODDS))
        self.assertEqual([type(told) for told in (call(*args, odd) for odd in LISTS)], [bool] * len(LISTS))


class YesPapers(Judging):
    def test_made_papers(self):
        for web, walk in CASES:
            if plainly_sure(web, walk):
                self.assertIs(is_yes_paper(web, walk, yes_paper(web, walk)), True)
                self.assertIs(is_yes_paper(web=web, walk=tuple(walk), value=yes_paper(web, walk)), True)

    def test_all_lots(self):
        for web, walk in some(CLOSE[::11], 3, 2) + some(FEW[:2], 3, 1):
            lots = [list(lot) for many in range(web.places + 1) for lot in combinations(range(web.places), many)]
            made = [[lot for lot in lots if is_lot_right(web, walk, i, j, lot)] for i, j in pairs_of(walk)]
            self.assertIs(all(made), plainly_sure(web, walk))
            for at, (i, j) in enumerate(pairs_of(walk)):
                for lot in lots:
                    rows = [(*pair, told[0] if told else []) for pair, told in zip(pairs_of(walk), made)]
                    rows[at] = (i, j, lot)
                    self.assertIs(is_yes_paper(web, walk, rows), is_yes_right(web, walk, rows))

    def test_pairs(self):
        walk = [0, 1, 2, 3]
        right = yes_paper(TWO, walk)
        self.assertIs(is_yes_paper(TWO, walk, right), True)
        for at, row in enumerate(right):
            self.check_never(is_yes_paper, TWO, walk, values=[
                right[:at] + right[at + 1:], right[:at] + [row] + right[at:], right[at:] + right[:at] if at else [],
                right[:at] + [right[at - 1]] + right[at + 1:], right[:at] + [(row[0] - 1, *row[1:])] + right[at + 1:],
                right[:at] + [(row[0], row[1] + 1, row[2])] + right[at + 1:]])
        self.check_never(is_yes_paper, TWO, walk, values=[
            right[::-1], right + [(4, 4, [])], [(0, 0, [])] + right, right + [(1, 4, [])], right + [right[-1]]])

    def test_lots(self):
        # Without the ties 1 and 2 one comes from 0 to 1 alone, and not back.
        web, walk = Web(4, [(0, 1), (1, 0), (0, 2), (2, 3), (3, 0)]), [0, 1, 2]
        right = [(1, 1, []), (1, 2, []), (2, 2, [1])]
        self.assertIs(is_yes_paper(web, walk, right), True)
        # A lot needn't be the least one.
        self.assertIs(is_yes_paper(web, walk, [(1, 1, [0, 2, 3]), (1, 2, [2, 3]), (2, 2, [1])]), False)
        self.assertIs(is_yes_paper(web, walk, [(1, 1, [0, 2, 3]), (1, 2, []), (2, 2, [1])]), True)
        for lot in ([1, 1], [3, 1], [2], [2, 1], [], [0, 1], [0, 1, 2, 3], [1, 2], [1, 4], [-1, 1], [True], [1, True]):
            self.assertIs(is_yes_paper(web, walk, right[:2] + [(2, 2, lot)]), False)
        for lot in ([1, 2, 3], (1, 2, 3), (1,)):
            self.assertIs(is_yes_paper(web, walk, right[:2] + [(2, 2, lot)]), lot == (1,))

    def test_one_tie(self):
        for web in CLOSE[::9] + FEW:
            for tie in range(web.many):
                self.assertEqual([is_yes_paper(web, [tie], value) for value in ([], (), [(1, 1, [])], [[]], None)],
                                 [True, True, False, False, False])

    def test_long_walks(self):
        self.assertIs(is_yes_paper(RING_60, around(60), yes_paper(RING_60, around(60))), True)
        longer = [(i, j, []) for i, j in pairs_of(around(61))]
        self.assertIs(is_yes_paper(RING_60, around(61), longer), is_yes_right(RING_60, around(61), longer))

    def test_any_value(self):
        self.check_kinds(is_yes_paper, EYES, [0, 1], [(1, 1, [])])
        self.check_kinds(is_yes_paper, TWO, [0, 1, 2], yes_paper(TWO, [0, 1, 2]))
        self.check_kinds(is_yes_paper, TWO, [0], [])
        self.check_never(is_yes_paper, EYES, [0, 1], values=[
            (1, 1, []), [(1, 1)], [(1, 1, [], [])], [()], [(1, 1, [0])], [(1, 1, [[]])], {(1, 1, ()): 1}, [[(1, 1, [])]]])

    def test_not_sure(self):
        self.check_never(is_yes_paper, EYES, [0, 0], values=[[(1, 1, [])], [(1, 1, [0])], []])

    def test_a_web_that_is_not_close(self):
        self.check_never(is_yes_paper, Web(2, [(0, 0), (0, 0)]), [0, 1], values=[[(1, 1, [])], [], None])
        for web, _ in OPEN:
            self.assertIs(is_yes_paper(web, [0], []), False)


class NoPapers(Judging):
    def test_all_rounds(self):
        for web in CLOSE[::29] + FEW[:2]:
            tours = walks(web, 6 if web.many < 4 else 5)[::2]
            for walk in walks(web, 3)[::2]:
                for tour in tours:
                    told = goes_round(web, tour) and is_lacking(web, tour, walk)
                    self.assertIs(is_no_paper(web, walk, tour), told)
                    self.assertIs(is_no_paper(web, tuple(walk), tuple(tour)), told)

    def test_made_papers(self):
        for web, walk in CASES:
            if not plainly_sure(web, walk):
                self.assertIs(is_no_paper(web, walk, no_paper(web, walk)), True)
        walk = (list(range(60)) * 7)[:400]
        web = Web(60, RING_60.ties() + [(place, 0) for place in range(20)])
        self.assertIs(is_no_paper(web=web, walk=walk, value=no_paper(web, walk)), True)

    def test_rounds(self):
        self.assertEqual([is_no_paper(EYES, [0, 0], tour) for tour in ([0, 1], [1], [0, 0, 1], [0, 1, 0], (1, 0), [1, 1])],
                         [True, False, False, False, True, False])
        # The walk is longer than the round.
        self.assertEqual([is_no_paper(EYES, [0, 1] * 9 + [0] * many, [0, 1]) for many in (0, 1, 2)],
                         [False, False, True])
        self.assertIs(is_no_paper(EYES, [0, 0], [0, 1] * 100000), True)

    def test_any_value(self):
        self.check_kinds(is_no_paper, EYES, [0, 0], [0, 1])
        self.check_kinds(is_no_paper, TWO, [1, 0], [0, 1, 2, 3])
        self.check_never(is_no_paper, TWO, [1, 0], values=WRONG_ROUNDS + [[0, 1], [2, 3], [0, 1, 2], [[0, 1, 2, 3]]])

    def test_a_web_that_is_not_close(self):
        self.check_never(is_no_paper, Web(2, [(0, 0), (0, 0)]), [0, 0], values=[[0, 1], [0], [], None])


class RankPapers(Judging):
    def test_made_papers(self):
        for web, walk in CASES:
            if plainly_sure(web, walk):
                self.assertIs(is_rank_paper(web, walk, rank_paper(web, walk)), True)
                self.assertIs(is_rank_paper(web=web, walk=tuple(walk), value=as_tuples(rank_paper(web, walk))), True)
        self.assertIs(is_rank_paper(RING_60, around(400), rank_paper(RING_60, around(400))), True)

    def check_all_ranks(self, web, walk, numbers):
        """Compare all papers that give the standings such numbers, and tell how many are right."""
        standings = list(product(range(web.places), range(len(walk))))
        right = 0
        for given in product([None] + numbers, repeat=len(standings)):
            ranks = [(standing, number) for standing, number in zip(standings, given) if number is not None]
            for ties in product([None] + list(range(web.many)), repeat=len(numbers)):
                paper = (ranks, [(number, tie) for number, tie in zip(numbers, ties) if tie is not None])
                told = is_rank_paper(web, walk, paper)
                self.assertIs(told, is_rank_right(web, walk, paper))
                right += told
        return right

    def test_all_ranks(self):
        for walk in walks(EYES, 3):
            self.assertIs(self.check_all_ranks(EYES, walk, [0, 1]) > 0, plainly_sure(EYES, walk))
        turn = Web(2, [(0, 1), (1, 0), (0, 0)])
        for walk in walks(turn, 2):
            self.assertIs(self.check_all_ranks(turn, walk, [0, 2]) > 0, plainly_sure(turn, walk))

    def test_standings(self):
        ranks, ties = EYE
        self.assertIs(is_rank_paper(EYES, [0, 1], EYE), True)
        self.check_never(is_rank_paper, EYES, [0, 1], values=[
            # A standing twice, with one number or with two.
            (ranks[:1] + ranks, ties), (ranks + ranks[1:], ties), (ranks[:1] + [((0, 1), 0), ((0, 1), 1)], ties),
            # Without (0, 0), or with nothing.
            (ranks[1:], ties), (ranks[1:], ties[:1]), ([], []), ([], ties),
            # A step to no standing, to a greater number, and to the same one by its tie.
            (ranks[:1], ties[1:]), (ranks[:1], ties), ([((0, 0), 0), ((0, 1), 1)], ties),
            ([((0, 0), 0), ((0, 1), 0)], ties[:1]), (ranks, [(0, 0), (1, 0)]), (ranks, [(0, 1), (1, 1)]),
            # Not rising.
            (ranks[::-1], ties), (ranks, ties[::-1]),
            # No standings: a place that isn't there, a state that isn't below the length.
            (ranks + [((0, 2), 0)], ties), (ranks + [((1, 0), 0)], ties), ([((0, -1), 0)] + ranks, ties)])

    def test_numbers(self):
        ranks, ties = EYE
        self.check_never(is_rank_paper, EYES, [0, 1], values=[
            # A number without a tie, with two, with one twice; a tie of no number; ties that aren't there.
            (ranks, []), (ranks, ties[:1]), (ranks, ties[1:]), (ranks, [(0, 0), (0, 1), (1, 0)]),
            (ranks, ties[:1] + ties), (ranks, ties + [(2, 0)]), (ranks, [(0, 1), (1, 2)]), (ranks, [(0, 1), (1, -1)])])
        higher = ([((0, 0), HUGE), ((0, 1), 7)], [(7, 1), (HUGE, 0)])
        self.assertIs(is_rank_paper(EYES, [0, 1], higher), True)

    def test_standings_that_do_not_come(self):
        # (1, 1) isn't come to, and steps to (0, 0) all the same.
        ring = Web(2, [(0, 1), (1, 0)])
        ranks = [((0, 0), 3), ((0, 1), 5)]
        self.assertIs(is_rank_paper(ring, [0], ([((0, 0), 3)], [(3, 0)])), True)
        self.assertIs(is_rank_paper(ring, [0], (ranks, [(3, 0), (5, 1)])), False)
        self.assertIs(is_rank_paper(ring, [1, 0], ([((0, 0), 3), ((1, 0), 2)], [(2, 0), (3, 0)])), False)
        paper = ([((0, 0), 3), ((0, 1), 4), ((1, 0), 3), ((1, 1), 4)], [(3, 1), (4, 0)])
        self.assertIs(is_rank_paper(ring, [0, 1], paper), is_rank_right(ring, [0, 1], paper))

    def test_any_value(self):
        self.check_kinds(is_rank_paper, EYES, [0, 1], EYE)
        self.check_kinds(is_rank_paper, TWO, [0, 1, 2], rank_paper(TWO, [0, 1, 2]))
        self.check_never(is_rank_paper, EYES, [0, 1], values=[
            EYE + ([],), EYE[:1], list(EYE), [EYE], (EYE[0], EYE[0]), EYE[::-1], ([()], [()]), ([((), 0)], [(0, 0)]),
            ([((0, 0, 0), 1)], [(1, 0)]), ([((0, 0), 1, 0)], [(1, 0)]), (dict(EYE[0]), dict(EYE[1]))])

    def test_a_web_that_is_not_close(self):
        for web in (Web(2, [(0, 0), (0, 0)]), Web(60, [(0, 0), (0, 0)])):
            self.check_never(is_rank_paper, web, [0, 1], values=[EYE, ([((0, 0), 0)], [(0, 0)]), None])


class AllPapers(Judging):
    def check_alike(self, web, paper):
        told = is_all_paper(web, paper)
        self.assertIs(told, is_all_right(web, paper), (web.ties(), paper))
        return told

    def test_made_papers(self):
        for web in BRANCHED[::4] + FEW + [LINE]:
            self.assertIs(is_all_paper(web, all_paper(web)), True)
            self.assertIs(is_all_paper(web=web, value=as_tuples(all_paper(web))), True)

    def test_rows_left_out_and_put_in(self):
        for web in BRANCHED[::12] + FEW:
            sure, loose = all_paper(web)
            for rows, other in ((sure, loose), (loose, sure)):
                papers = [rows[:at] + rows[at + 1:] for at in range(len(rows))]
                papers += [rows[:at] + rows[at - 1:] for at in range(1, len(rows))] + [rows[::-1], rows + rows]
                for paper in papers:
                    self.check_alike(web, (paper, other) if rows is sure else (other, paper))

    def test_other_sure_walks(self):
        for web in BRANCHED[::12] + FEW[:3]:
            sure, loose = all_paper(web)
            short = [(walk, yes_paper(web, walk)) for walk in walks(web, 3) if plainly_sure(web, walk)]
            for row in short:
                # One more, in one of the told ones; and, in the place of each, what may be less.
                self.check_alike(web, (sorted(sure + [row]), loose))
                for at in range(len(sure)):
                    self.check_alike(web, (sorted(sure[:at] + [row] + sure[at + 1:]), loose))
            self.check_alike(web, (sorted(short), loose))

    def test_other_loose_walks(self):
        for web in BRANCHED[::15] + FEW[:3]:
            sure, loose = all_paper(web)
            others = []
            for walk in walks(web, 3):
                more = [(i, j, road) for i, j in pairs_of(walk) for road in walks(web, 2)]
                others += [(walk, around) for around in more if leads_around(web, walk, *around)][:1]
            self.assertIs(self.check_alike(web, (sure, sorted(others))),
                          all(any(walk[-len(end):] == end for end, _ in others) for walk, _ in loose))
            for row in others:
                self.check_alike(web, (sure, sorted([told for told in loose if told[0] != row[0]] + [row])))
                for at in range(len(loose)):
                    told = [told for told in loose if told[0] != row[0] and told != loose[at]]
                    self.check_alike(web, (sure, sorted(told + [row])))

    def test_edges(self):
        sure, loose = all_paper(TWO)
        self.assertEqual([walk for walk, _ in loose], [[1, 0], [1, 2, 3, 0], [3, 0, 1, 2], [3, 2]])
        self.assertIs(is_all_paper(TWO, (sure, loose)), True)
        part = ([0, 1, 2], yes_paper(TWO, [0, 1, 2]))
        self.check_never(is_all_paper, TWO, values=[
            # A walk twice, with one paper or with two.
            (sure[:1] + sure, loose), (sure, loose[:1] + loose),
            (sure, [([1, 0], (1, 1, [2, 3])), ([1, 0], (1, 1, [2, 3, 2, 3]))] + loose[1:]),
            # One within another one, at its beginning, its end, and in its midst.
            ([part] + sure, loose), ([sure[0], ([1, 2], yes_paper(TWO, [1, 2])), sure[1]], loose),
            ([sure[0], ([1, 2, 3], yes_paper(TWO, [1, 2, 3])), sure[1]], loose),
            # A tie in no sure one, what a loose one should end, a loose one of one tie.
            ([], loose), ([([0, 1], yes_paper(TWO, [0, 1]))], loose), (sure, []), (sure, loose[1:]),
            (sure, [([0], (1, 1, [2, 3]))] + loose), (sure, [([0], (0, 0, [2, 3]))] + loose),
            # Not rising; no walks; papers of other walks.
            (sure[::-1], loose), (sure, loose[::-1]), ([([0, 2], [])] + sure, loose), ([([], [])] + sure, loose),
            (sure, [([1, 1], (1, 1, [2, 3]))] + loose), ([(sure[0][0], sure[1][1][:-1]), sure[1]], loose),
            (sure, [([1, 0], (1, 1, [0, 1]))] + loose[1:]), (sure, [([1, 0], loose[3][1])] + loose[1:])]
            + [(sure, loose[:at] + loose[at + 1:]) for at in range(4)])

    def test_walks_as_tuples_beside_lists(self):
        sure, loose = all_paper(TWO)
        paper = ([as_tuples(sure[0]), sure[1]], loose[:1] + [as_tuples(row) for row in loose[1:]])
        self.assertIs(is_all_paper(TWO, paper), True)
        self.check_never(is_all_paper, TWO, values=[
            ([sure[0], as_tuples(sure[0]), sure[1]], loose), (sure, [as_tuples(loose[0])] + loose)])

    def test_longer_loose_walks(self):
        sure, loose = all_paper(TWO)
        # That 0, 1, 0 is loose tells nothing of 1, 0.
        longer = ([0, 1, 0], (2, 2, [2, 3]))
        self.assertIs(is_all_paper(TWO, (sure, [longer] + loose)), True)
        self.assertIs(is_all_paper(TWO, (sure, [longer] + loose[1:])), False)

    def test_not_all_of_them(self):
        web = Web(2, [(0, 1), (1, 0), (0, 0)])
        sure, loose = all_paper(web)
        self.assertEqual([walk for walk, _ in sure], [[0, 1, 2], [2, 0, 1]])
        # Each tie is in a sure one, but behind 2 the tie 0 makes a sure walk that isn't told.
        self.check_never(is_all_paper, web, values=[(sure[:1], loose), (sure[1:], loose)])

    def test_single_rings(self):
        for web in RINGS[:3]:
            for many in range(1, 8):
                told = [(walk, yes_paper(web, walk)) for walk in walks(web, many) if len(walk) == many]
                self.check_never(is_all_paper, web, values=[(told, []), (told[:1], [])])

    def test_long_walks(self):
        self.check_never(is_all_paper, CUT, values=[all_paper(LINE), all_paper(TWO)])

    def test_any_value(self):
        self.check_kinds(is_all_paper, EYES, all_paper(EYES))
        self.check_kinds(is_all_paper, Web(2, [(0, 1), (1, 0), (0, 0)]), all_paper(Web(2, [(0, 1), (1, 0), (0, 0)])))
        sure, loose = all_paper(EYES)
        self.check_never(is_all_paper, EYES, values=[
            (sure,), (sure, loose, []), [sure, loose], (loose, sure), (sure, [()] + loose), ([()] + sure, loose),
            (dict(as_tuples(sure)), loose), ([(*row, 0) for row in sure], loose), (sure, [(*row, 0) for row in loose])])

    def test_a_web_that_is_not_close(self):
        self.check_never(is_all_paper, Web(2, [(0, 0), (0, 0)]), values=[all_paper(EYES), ([], []), None])
        self.check_never(is_all_paper, Web(1, []), values=[([], []), None])
        self.check_never(is_all_paper, Web(2, [(0, 0), (1, 1), (0, 1)]), values=[
            ([([0], []), ([1], []), ([2], [])], []), ([], [])])


class Parameters(Judging):
    def test_parameters(self):
        for call, value in ((is_yes_paper, [(1, 1, [])]), (is_no_paper, [0, 1]), (is_rank_paper, EYE)):
            check_parameters(self, call, [("web", TWO, WRONG_WEBS, InvalidWeb), ("walk", [0, 1], WRONG_WALKS, InvalidWalk),
                                          ("value", value, [], None)])
        check_parameters(self, is_all_paper, [("web", TWO, WRONG_WEBS, InvalidWeb), ("value", None, [], None)])

    def test_judges_make_no_papers_and_search_for_no_roads(self):
        needed = [(node.module, alias.name) for node in TREES["judges"].body if isinstance(node, ast.ImportFrom)
                  for alias in node.names]
        self.assertFalse({file for file, _ in needed} & {"suretexts." + file for file in (
            "papers", "avoiding", "greatest", "detours", "steps")})
        self.assertFalse({name for _, name in needed} & {"road_around", "road_between", "way", "reach", "is_sure"})
