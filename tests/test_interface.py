"""The interface as a whole: its examples, where its functions stand, and what their parameters are called."""

import doctest
import importlib
import inspect
import os
import unittest

from tests.tools import PARAMETERS

TESTS = os.path.dirname(os.path.abspath(__file__))
EXAMPLES = os.path.join(TESTS, "examples.txt")
README = os.path.join(os.path.dirname(TESTS), "README.md")

FILES = {
    "basics": ["is_integer", "is_count"],
    "rows": ["is_row", "letter_at", "spelled", "normal_row", "are_same", "first_unlike", "turned_on", "put_ahead",
             "woven", "rows_to"],
    "readers": ["Reader", "is_single", "renamed"],
    "texts": ["reader_text", "reader_of"],
    "runs": ["is_run", "slips_of", "lets_by", "clean_run", "rooms_behind"],
    "heights": ["spots", "clean_ring", "least_heights", "height_paper", "is_height_paper"],
    "shown": ["shown", "is_shown", "all_let", "all_barred", "first_let", "first_barred"],
    "breaks": ["next_standing", "standing_behind", "standings", "break_table", "lets_by_breaks"],
}

METHODS = ["ways", "way", "ways_by"]


class TestInterface(unittest.TestCase):

    def test_examples(self):
        told = doctest.testfile(EXAMPLES, module_relative=False)
        self.assertEqual(told.failed, 0)
        self.assertEqual(told.attempted, 29)

    def test_the_readme(self):
        self.assertEqual(doctest.testfile(README, module_relative=False).failed, 0)

    def test_each_is_defined_in_its_file(self):
        for file, names in FILES.items():
            module = importlib.import_module(f"tworivals.{file}")
            for name in names:
                self.assertEqual(getattr(module, name).__module__, f"tworivals.{file}", name)

    def test_parameters(self):
        for file, names in FILES.items():
            module = importlib.import_module(f"tworivals.{file}")
            for name in names:
                self.assertEqual(list(inspect.signature(getattr(module, name)).parameters), PARAMETERS[name], name)
        reader = importlib.import_module("tworivals.readers").Reader
        for name in METHODS:
            self.assertEqual(list(inspect.signature(getattr(reader, name)).parameters)[1:], PARAMETERS[name], name)
