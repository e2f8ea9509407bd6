"""The error classes: parents, attributes, parameters."""

import unittest

from suretexts import errors

VALUE_ERRORS = (
    "InvalidText InvalidRing InvalidWord InvalidSize InvalidLot InvalidPieces InvalidWeb InvalidPieceWeb "
    "InvalidPlace InvalidTie InvalidWalk InvalidRound InvalidCounts InvalidPrices InvalidMany InvalidAround "
    "InvalidBy InvalidClaim InvalidCommand InvalidFolding InvalidKeeper InvalidLeast InvalidMate InvalidMates "
    "InvalidPaper InvalidPart InvalidPlaces InvalidReadings InvalidSort InvalidTexts InvalidThing InvalidTies "
    "InvalidTimes InvalidWithout").split()

FAMILIES = [
    ("PieceError", ValueError, [(name, ["value"]) for name in VALUE_ERRORS] + [
        ("BadText", ["line"]), ("InvalidDeeds", ["position"]), ("UnreadText", ["position"])]),
    ("MissingError", LookupError, [
        ("NotRead", ["text"]), ("UnknownLabel", ["value"]), ("UnknownName", ["value"])]),
    ("StateError", RuntimeError, [(name, []) for name in (
        "NotClose EndlessWalks FewTimes NoRing NoRounds NotBubble NotCounted NothingSolid NothingToRedo "
        "NothingToUndo UnlikeSizes").split()] + [
        ("CommandFailed", ["position"]), ("LabelTaken", ["label"]), ("NameTaken", ["name"])]),
    ("LimitError", ArithmeticError, [("TooMany", ["what", "limit"])]),
]


class Errors(unittest.TestCase):
    def test_parents(self):
        for parent_name, grandparent, rows in FAMILIES:
            parent = getattr(errors, parent_name)
            self.assertEqual(parent.__bases__, (grandparent,))
            for name, _ in rows:
                self.assertEqual(getattr(errors, name).__bases__, (parent,), name)

    def test_none_besides(self):
        listed = [name for family in FAMILIES for name in [family[0]] + [row[0] for row in family[2]]]
        there = [name for name, value in vars(errors).items() if isinstance(value, type)]
        self.assertEqual(sorted(there), sorted(listed))
        self.assertEqual(len(listed), 59)

    def test_attributes(self):
        values = [None, True, 3, "ab", [1, [2]], (), {"a": 1}, object(), ValueError]
        for _, _, rows in FAMILIES:
            for name, names in rows:
                error = getattr(errors, name)
                for at in range(len(values)):
                    args = [values[(at + k) % len(values)] for k in range(len(names))]
                    for made in (error(*args), error(**dict(zip(names, args)))):
                        self.assertEqual(list(vars(made)), names)
                        for attribute, value in zip(names, args):
                            self.assertIs(getattr(made, attribute), value)

    def test_parameters_are_wanted(self):
        for _, _, rows in FAMILIES:
            for name, names in rows:
                if names:
                    with self.assertRaises(TypeError):
                        getattr(errors, name)()
