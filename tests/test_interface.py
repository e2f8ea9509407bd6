"""The names, parameters and files of the interface, as they stand there, for the whole program."""

import importlib
import inspect
import unittest

FUNCTIONS = {
    "basics": "is_integer(value) is_count(value) is_size(value)",
    "rings": "is_text(value) is_ring(value) turned(ring, by) plain_normal(ring) normal(ring) are_alike(ring, other) borders(word)"
             " plain_begins(ring, word) begins(ring, word) stands_in(ring, word) period_of(ring) root_of(ring)"
             " overlap(text, next_text)",
    "pieced": "ring_pieces(ring, size) line_pieces(text, size) has_just(ring, pieces) cut_at(ring, size, place)",
    "lots": "with_reading(lot, text, times) both_lots(lot, other) without_reading(lot, text, times)",
    "readers": "lot_text(lot) lot_of(text)",
    "webs": "is_walk(web, value) is_round(web, value) leads(web, walk) covers(web, tour) walk_in_round(web, tour, walk)"
            " back_web(web)",
    "parts": "reach(web, place, without) way(web, near, far, without) parts_of(web) plain_parts(web) is_close(web)"
             " is_single_ring(web) part_web(web, part)",
    "pieces": "explains(pieceweb, ring)",
    "folds": "unfolded(folding, walk) folded_walk(folding, walk)",
    "tables": "plain_table(web, walk) table(web, walk) falls(web, walk)",
    "avoiding": "product(web, walk) parts_without(web, walk) is_sure_plain(web, walk) lacking_round(web, walk)"
                " is_sure_in_lots(web, walk) lacking_lot(web, walk)",
    "roads": "road_around(web, walk) is_road_around(web, walk, value) is_sure(web, walk) goes_on(web, walk) comes_from(web, walk)",
    "detours": "some_round(web) detoured(web, walk, around, tour)",
    "greatest": "sure_walks(web) simple_walks(web) fork_walks(web) is_simple_walk(web, walk) is_fork_walk(web, walk)"
                " contigs(pieces)",
    "papers": "yes_paper(web, walk) no_paper(web, walk) rank_paper(web, walk) all_paper(web)",
    "judges": "is_yes_paper(web, walk, value) is_no_paper(web, walk, value) is_rank_paper(web, walk, value)"
              " is_all_paper(web, value)",
    "flows": "extras_of(web, prices) price_paper(web, prices) worth(web, prices, value) is_price_paper(web, prices, value, many)",
    "shortest": "least_price(web, prices) plain_least_price(web, prices) price_of(web, prices, tour) least_round(web, prices)"
                " shortest_ring(pieces) shortest_length(pieces)",
    "counted": "is_counted(web, counts) counted_round(web, counts) is_counted_round(web, counts, value)"
               " normal_round(web, tour) all_rounds(web, counts)",
    "numbers": "trees_to(web, counts, place) ways(web, counts) how_many(web, counts)",
    "certain": "times_in(web, tour, walk) times_counted(web, counts, walk) sure_counted(web, counts, walk)"
               " lacking_counted(web, counts, walk) most_next(web, counts, tie, later) always_next(web, counts)"
               " only_round(web, counts)",
    "mates": "keeps_mate(web, tour, mate) broken_mates(web, tour, mates) mated_rounds(web, counts, mates)"
             " sure_mated(web, counts, mates, walk) fewest_broken(web, counts, mates) needless_mates(web, counts, mates)",
    "mending": "least_changes(pieceweb, word) mended(pieceweb, word) is_mending(pieceweb, word, value)"
               " walk_letters(pieceweb, walk) change_paper(pieceweb, word) is_change_paper(pieceweb, word, value, many)"
               " mended_readings(lot, least)",
    "bubbles": "is_shut(web, begin, end) is_bubble(web, begin, end) plain_bubbles(web) bubbles(web) bubble_end(web, place)"
               " inside(web, begin, end) ways_through(web, begin, end) shortest_way(web, begin, end, prices)",
    "finder": "plain_places(texts, word)",
    "columns": "column_of(ring) is_column(column) ring_of_column(column) stretch_by(column, word) how_often_by(column, word)",
    "texts": "is_of_sort(sort, value) written(sort, value) read(sort, text)",
    "claims": "words() is_claim(value) contrary(claim) is_true(claim) paper_of(claim) is_paper_of(claim, value)",
    "commands": "is_name(value) is_command(value) is_deed(value)",
    "desk": "tried(desk, action)",
}

CLASSES = {
    ("lots", "Lot(size, readings)"): "readings() times_of(text) pieces() solid(least) __eq__(other)",
    ("webs", "Web(places, ties)"): "ties() ties_from(place) ties_to(place) __eq__(other)",
    ("pieces", "PieceWeb(pieces)"): "web() pieces() words() word_at(place) letter_of(tie) text_of(walk) ring_of(tour)"
                                    " walk_of(text) round_of(ring) __eq__(other)",
    ("folds", "Folding(web)"): "web() folded() kept() stretches()",
    ("keeper",
     "Keeper(size, least)"): "least() added(text, times) taken(text, times) undone() redone() lot() solid() log()"
                                       " clusters() contigs() reckoned() copy()",
    ("finder", "Finder(texts)"): "texts() rows() last_letters() stretch_of(word) places_of(word) how_often(word)"
                                 " longest_again() __eq__(other)",
    ("desk", "Desk()"): "claim_of(label) do(command) __call__(command) do_all(*commands) attempt(*commands)"
                        " attach(label, paper) fits(label) lines() copy() __len__() __contains__(x) __getitem__(at)",
    ("desk", "Trial(desk)"): "__enter__() __exit__(kind, value, trace)",
}

PROPERTIES = {("lots", "Lot"): ["size"], ("webs", "Web"): ["many", "places"], ("pieces", "PieceWeb"): ["size"],
              ("keeper", "Keeper"): ["size"], ("desk", "Desk"): ["labels", "names"]}


def parted(rows):
    """The tuples (name, parameters) of the rows of a table."""
    return [(row.split("(")[0], "(" + row.split("(")[1]) for row in rows.replace(") ", ")\n").split("\n")]


def module_of(file):
    return importlib.import_module(f"suretexts.{file}")


class Interface(unittest.TestCase):
    def test_functions(self):
        for file, rows in FUNCTIONS.items():
            for name, parameters in parted(rows):
                with self.subTest(file=file, name=name):
                    function = getattr(module_of(file), name)
                    self.assertTrue(inspect.isfunction(function))
                    self.assertEqual([function.__module__, function.__name__], [f"suretexts.{file}", name])
                    self.assertEqual(str(inspect.signature(function)), parameters)

    def test_classes(self):
        for (file, head), rows in CLASSES.items():
            (name, parameters), = parted(head)
            found = getattr(module_of(file), name)
            self.assertEqual([found.__module__, found.__name__, str(inspect.signature(found))],
                             [f"suretexts.{file}", name, parameters])
            for method, wanted in parted(rows):
                with self.subTest(name=name, method=method):
                    # In the class itself, not in one that it is derived from.
                    told = inspect.signature(vars(found)[method])
                    self.assertEqual(list(told.parameters)[0], "self")
                    self.assertEqual([str(part) for part in told.parameters.values()][1:],
                                     [part for part in wanted[1:-1].split(", ") if part])

    def test_properties(self):
        for (file, name), wanted in PROPERTIES.items():
            found = getattr(module_of(file), name)
            told = sorted(key for key, value in vars(found).items() if isinstance(value, property))
            self.assertEqual(told, wanted)

    def test_class_method(self):
        found = vars(module_of("desk").Desk)["again"]
        self.assertIsInstance(found, classmethod)
        self.assertEqual(list(inspect.signature(found.__func__).parameters), ["cls", "lines"])
