"""The examples of the interface as they stand, and those of README.md."""

import doctest
import pathlib
import unittest

HERE = pathlib.Path(__file__).parent


class Examples(unittest.TestCase):
    def check(self, path):
        told = doctest.testfile(str(path), module_relative=False)
        self.assertGreater(told.attempted, 0)
        self.assertEqual(told.failed, 0)

    def test_interface(self):
        self.check(HERE / "examples.txt")

    def test_readme(self):
        self.check(HERE.parent / "README.md")
