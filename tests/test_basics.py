"""INTEGERS and COUNTS, of any value."""

from tests.tools import PromiseCase, junk
from tworivals.basics import is_count, is_integer


class TestKindsOfNumbers(PromiseCase):

    def test_integers(self):
        for value in (0, 1, -1, 7, -7, 2 ** 64, -(2 ** 64), 10 ** 29, -(10 ** 29)):
            self.gives(True, is_integer, value)

    def test_counts(self):
        for value in (0, 1, 2, 7, 400, 2 ** 64, 10 ** 29):
            self.gives(True, is_count, value)
        for value in (-1, -2, -7, -(2 ** 64), -(10 ** 29)):
            self.gives(False, is_count, value)

    def test_bools_are_neither(self):
        for value in (True, False):
            self.gives(False, is_integer, value)
            self.gives(False, is_count, value)

    def test_any_other_value(self):
        for value in junk():
            if type(value) is not int:
                for function in (is_integer, is_count):
                    self.assertIs(function(value), False)
                    self.assertIs(function(value=value), False)
