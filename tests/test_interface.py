"""The interface as a whole: its examples, where its functions stand, and what their parameters are called."""

import doctest
import importlib
import inspect
import os
import unittest

from tests.tools import PARAMETERS

TESTS = os.path.dirname(os.path.abspath(__file__))
EXAMPLES = os.path.join(TESTS, "examples.txt")
README = os.path.join(os.path.dirname(TESTS), "README.md")

# So many lines are asked in the examples; none of them is to be left out.
EXAMPLES_TOLD = 122

FILES = {
    "basics": ["is_integer", "is_count"],
    "rows": ["is_row", "letter_at", "spelled", "normal_row", "are_same", "first_unlike", "turned_on", "put_ahead",
             "woven", "rows_to"],
    "readers": ["Reader", "is_single", "renamed"],
    "texts": ["reader_text", "reader_of"],
    "runs": ["is_run", "slips_of", "lets_by", "clean_run", "rooms_behind"],
    "heights": ["spots", "clean_ring", "least_heights", "height_paper", "is_height_paper"],
    "shown": ["shown", "is_shown", "all_let", "all_barred", "first_let", "first_barred"],
    "breaks": ["next_standing", "standing_behind", "standings", "break_table", "lets_by_breaks"],
    "within": ["is_within", "are_equal", "within_paper", "is_within_paper", "parting_row", "is_parting_row"],
    "boards": ["Board", "plain_winners"],
    "peeling": ["pulled", "peeled", "winners", "plan_of", "is_plan"],
    "umpires": ["is_play", "who_wins", "play_of", "plan_wins", "lost_play"],
    "measures": ["win_paper", "is_win_paper"],
    "plays": ["letter_board", "has_chooser", "chooser_paper", "foe_paper", "is_chooser_paper", "is_foe_paper"],
    "choosers": ["is_table", "run_by", "keeps", "is_chooser", "chooser_of", "wrong_row", "is_wrong_row"],
    "rivals": ["turned", "rival_board", "wins_rivals", "rivals_paper", "is_rivals_paper"],
    "foes": ["foe_of", "is_foe", "spoilt_run", "spoilt_row", "beats"],
    "wishes": ["Wish", "wish_board", "stand_in_board", "wish_winner", "stand_in_winner", "is_wish_play", "row_of_play",
               "wish_plan", "stand_in_plan", "is_wish_plan", "is_stand_in_plan"],
    "failing": ["is_all_let", "let_paper", "is_let_paper", "barred_play", "spoil_paper", "is_spoil_paper"],
    "failures": ["is_failing", "failing_paper", "is_failing_paper", "foe_wish", "failing_wish"],
    "steps": ["follows", "following_paper", "leaving_paper", "is_following_paper", "is_leaving_paper", "followed_run"],
    "joined": ["both_of", "either_of"],
    "cutting": ["is_cutting", "cutting", "first_cutting", "is_one_memory"],
    "written": ["is_of_sort", "written", "read"],
    "claims": ["words", "is_claim", "contrary", "is_true", "paper_of", "is_paper_of"],
    "commands": ["is_name", "is_command", "is_deed"],
    "desk": ["Desk", "Trial", "tried"],
}

# For each class of the interface its methods, and its properties.
CLASSES = {("readers", "Reader"): (["ways", "way", "ways_by"], ["letters", "rooms", "many"]),
           ("boards", "Board"): (["owners", "ranks", "moves"], ["many"]),
           ("wishes", "Wish"): (["owners", "moves"], ["many"]),
           ("desk", "Desk"): (["claim_of", "do", "do_all", "attempt", "attach", "fits", "lines", "copy"],
                              ["names", "labels"])}

# The methods between two underscores each that are asked for by their signs.
SIGNS = {("readers", "Reader"): ["__eq__"], ("boards", "Board"): ["__eq__"], ("wishes", "Wish"): ["__eq__"],
         ("desk", "Desk"): ["__len__", "__getitem__", "__contains__", "__call__"],
         ("desk", "Trial"): ["__enter__", "__exit__"]}


class TestInterface(unittest.TestCase):

    def test_examples(self):
        told = doctest.testfile(EXAMPLES, module_relative=False)
        self.assertEqual(told.failed, 0)
        self.assertEqual(told.attempted, EXAMPLES_TOLD)

    def test_the_readme(self):
        self.assertEqual(doctest.testfile(README, module_relative=False).failed, 0)

    def test_each_is_defined_in_its_file(self):
        for file, names in FILES.items():
            module = importlib.import_module(f"tworivals.{file}")
            for name in names:
                self.assertEqual(getattr(module, name).__module__, f"tworivals.{file}", name)

    def test_parameters(self):
        for file, names in FILES.items():
            module = importlib.import_module(f"tworivals.{file}")
            for name in names:
                self.assertEqual(list(inspect.signature(getattr(module, name)).parameters), PARAMETERS[name], name)
        for (file, kind), (methods, _) in CLASSES.items():
            made = getattr(importlib.import_module(f"tworivals.{file}"), kind)
            for name in methods:
                self.assertEqual(list(inspect.signature(getattr(made, name)).parameters)[1:], PARAMETERS[name], name)

    def test_classes(self):
        for (file, kind), (methods, properties) in CLASSES.items():
            own = vars(getattr(importlib.import_module(f"tworivals.{file}"), kind))
            for name in methods + ["__init__"]:
                self.assertTrue(inspect.isfunction(own[name]), name)
            for name in properties:
                self.assertIsInstance(own[name], property, name)
        for (file, kind), names in SIGNS.items():
            own = vars(getattr(importlib.import_module(f"tworivals.{file}"), kind))
            for name in names:
                self.assertTrue(inspect.isfunction(own[name]), name)
        self.assertIsInstance(vars(importlib.import_module("tworivals.desk").Desk)["again"], classmethod)
