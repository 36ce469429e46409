"""Cuttings, cut readers, and the first single cutting by which all rows are let by."""

import itertools
import random

from tests import oracles, play_oracles
from tests.play_oracles import GUESS, LONE, doubtful_readers, small_readers
from tests.tools import (WAYS_401, PromiseCase, changed, clean_reader, full_reader, junk, last_reader, round_reader,
                         slip_reader, some_readers, some_rows, step_reader)
from tworivals.choosers import chooser_of, is_chooser
from tworivals.cutting import cutting, first_cutting, is_cutting, is_one_memory
from tworivals.errors import InvalidNumbers, InvalidReader
from tworivals.plays import has_chooser
from tworivals.readers import Reader, is_single
from tworivals.runs import lets_by
from tworivals.within import are_equal

ONE = [Reader(1, 1, [(0, 0, 0, 0)])]
# It has a chooser, but none with one memory.
FORGETFUL = (2, 2, [(0, 0, 0, 1), (0, 0, 1, 0), (0, 0, 1, 1), (0, 1, 0, 1), (0, 1, 1, 0), (0, 1, 1, 1), (1, 0, 0, 0),
                    (1, 1, 0, 1)])


def cutting_by_words(reader, value):
    if type(value) not in (list, tuple) or not all(oracles.plain_count(number, reader.many) for number in value):
        return False
    if list(value) != sorted(set(value)):
        return False
    left = {reader.ways()[number][:2] for number in value}
    return all((room, letter) in left for room in range(reader.rooms) for letter in range(reader.letters))


def cut(reader, numbers):
    return Reader(reader.letters, reader.rooms, [reader.ways()[number] for number in numbers])


def singles(reader):
    """All single cuttings, sorted."""
    chosen = [reader.ways_by(room, letter) for room in range(reader.rooms) for letter in range(reader.letters)]
    return sorted(sorted(numbers) for numbers in itertools.product(*chosen))


def first_by_words(reader):
    for numbers in singles(reader):
        if oracles.within_paper(reader, cut(reader, numbers)) is not None:
            return numbers
    return None


def choice_reader(choices):
    """In room 0 there are by each letter so many ways; elsewhere there is no choice."""
    ways = [(0, letter, to, slip) for letter, many in enumerate(choices)
            for to, slip in itertools.islice(itertools.product(range(7), (0, 1)), many)]
    ways += [(room, letter, room, 0) for room in range(1, 7) for letter in range(len(choices))]
    return Reader(len(choices), 7, ways)


class TestCuttings(PromiseCase):

    def test_last(self):
        last = last_reader()
        for numbers in ([0, 3, 4, 7], (0, 3, 4, 7), [0, 1, 2, 4, 7], list(range(8)), [1, 2, 5, 6]):
            self.gives(True, is_cutting, last, numbers)
            self.gives(cut(last, numbers), cutting, last, numbers)
        for numbers in ([0, 3, 4], [3, 0, 4, 7], [0, 0, 3, 4, 7], [0, 3, 4, 8], [-1, 3, 4, 7], [False, 3, 4, 7], [],
                        [0, 1, 4, 7], {0: 0, 3: 3, 4: 4, 7: 7}, "0347", None):
            self.gives(False, is_cutting, last, numbers)
            self.refuses(InvalidNumbers, numbers, cutting, last, numbers)

    def test_all_of_them(self):
        for reader in (last_reader(), Reader(1, 2, [(0, 0, 0, 0), (0, 0, 0, 1), (0, 0, 1, 0), (1, 0, 1, 1), (1, 0, 0, 0)])):
            found = {True: 0, False: 0}
            for many in range(reader.many + 1):
                for numbers in itertools.combinations(range(reader.many), many):
                    fits = cutting_by_words(reader, list(numbers))
                    self.gives(fits, is_cutting, reader, list(numbers))
                    found[fits] += 1
            self.assertGreater(min(found.values()), 10)

    def test_one_thing_otherwise(self):
        found = {True: 0, False: 0}
        for reader in some_readers(40, 61):
            for numbers in singles(reader)[:3] + [list(range(reader.many))]:
                for value in changed(numbers):
                    fits = cutting_by_words(reader, value)
                    self.assertIs(is_cutting(reader, value), fits, value)
                    found[fits] += 1
        self.assertGreater(min(found.values()), 100)

    def test_cut_readers(self):
        source = random.Random(62)
        for reader in some_readers(60, 62) + [full_reader(), step_reader(3)]:
            kept = [number for number in range(reader.many) if source.randrange(2)]
            numbers = sorted(set(kept) | {source.choice(reader.ways_by(room, letter)) for room in range(reader.rooms)
                                          for letter in range(reader.letters)})
            told = self.ask(cutting, reader, numbers)
            self.assertEqual((told.letters, told.rooms), (reader.letters, reader.rooms))
            self.assertEqual(told.ways(), [reader.ways()[number] for number in numbers])
            for row in some_rows(reader.letters, 3, reader.many):
                self.assertLessEqual(oracles.is_let(told, row), oracles.is_let(reader, row))

    def test_any_value(self):
        for value in junk():
            for told in (value, [value], [0, 3, 4, value], [value, 3, 4, 7]):
                self.assertIs(is_cutting(last_reader(), told), cutting_by_words(last_reader(), told), told)

    def test_wrong(self):
        for function in (is_cutting, cutting):
            self.refuses_junk(InvalidReader, function, None, None, at=0, fine=ONE)
        self.refuses_junk(InvalidNumbers, cutting, last_reader(), None, at=1)


class TestFirstCutting(PromiseCase):

    def checked(self, reader):
        numbers = first_by_words(reader)
        self.gives(numbers, first_cutting, reader)
        self.gives(numbers is not None, is_one_memory, reader)
        if numbers is not None:
            # Taking its ways is a right chooser with one memory.
            told = cut(reader, numbers)
            self.assertTrue(is_single(told))
            table = [[[(number, 0) for number in numbers if reader.way(number)[0] == room] for room in range(reader.rooms)]]
            if len(oracles.coming_standings(reader)) <= 400:
                self.assertTrue(is_chooser(reader, table))
            for row in some_rows(reader.letters, 4, reader.many):
                self.assertEqual(lets_by(told, row), lets_by(reader, row))
        return numbers

    def test_examples(self):
        self.gives([0, 3, 4, 7], first_cutting, last_reader())
        for reader in (clean_reader(4), slip_reader(3), round_reader(12, [3]), step_reader(4)):
            self.gives(list(range(reader.many)), first_cutting, reader)
            self.gives(True, is_one_memory, reader)
        for told in (GUESS, LONE):
            self.gives(None, first_cutting, Reader(*told))
            self.gives(False, is_one_memory, Reader(*told))

    def test_the_first_of_several(self):
        reader = Reader(1, 2, [(0, 0, 0, 0), (0, 0, 1, 0), (1, 0, 0, 0), (1, 0, 1, 0)])
        self.gives([0, 2], first_cutting, reader)
        reader = Reader(1, 2, [(0, 0, 0, 1), (0, 0, 1, 0), (1, 0, 0, 0), (1, 0, 1, 0)])
        self.gives([1, 2], first_cutting, reader)
        reader = Reader(1, 2, [(0, 0, 0, 1), (0, 0, 1, 1), (1, 0, 0, 1), (1, 0, 1, 0)])
        self.gives([1, 3], first_cutting, reader)

    def test_by_going_through_all(self):
        found = {True: 0, False: 0}
        for reader in small_readers(100, 63) + doubtful_readers(60, 63):
            if len(singles(reader)) <= 200:
                found[self.checked(reader) is not None] += 1
        self.assertGreater(min(found.values()), 30)

    def test_a_chooser_without_such_a_cutting(self):
        reader = Reader(*FORGETFUL)
        self.assertIsNotNone(chooser_of(reader))
        self.assertIsNone(self.checked(reader))
        for numbers in singles(reader):
            self.assertFalse(are_equal(reader, cut(reader, numbers)))
        many = 0
        for reader in small_readers(300, 64, sizes=((2, 2), (2, 3))):
            if play_oracles.letter_board(reader)[0] is not None and has_chooser(reader):
                many += self.checked(reader) is None
        self.assertGreater(many, 0)

    def test_1000_cuttings(self):
        for choices, many in (((10, 10, 10), 1000), ((8, 5, 5, 5), 1000), ((14, 14, 5), 980)):
            reader = choice_reader(choices)
            self.assertEqual(len(singles(reader)), many)
            self.gives(first_by_words(reader), first_cutting, reader)
        for choices in ((7, 11, 13), (14, 13, 6), (11, 13, 7, 1)):
            reader = choice_reader(choices)
            self.assertGreater(len(singles(reader)), 1000)
            self.too_many("cuttings", 1000, first_cutting, reader)
            self.too_many("cuttings", 1000, is_one_memory, reader)
        self.too_many("cuttings", 1000, first_cutting, full_reader())
        self.too_many("cuttings", 1000, is_one_memory, full_reader())

    def test_more_cuttings_than_1000_by_one(self):
        reader = choice_reader((7, 11, 13))
        self.assertEqual(len(singles(reader)), 1001)
        self.too_many("cuttings", 1000, first_cutting, reader)

    def test_standings_of_the_reader_do_not_count(self):
        reader = Reader(3, 7, WAYS_401)
        self.assertEqual(len(oracles.coming_standings(reader)), 401)
        self.checked(reader)

    def test_told_lists_are_new(self):
        first_cutting(last_reader()).pop()
        self.gives([0, 3, 4, 7], first_cutting, last_reader())

    def test_wrong(self):
        for function in (first_cutting, is_one_memory):
            self.refuses_junk(InvalidReader, function, None, at=0, fine=ONE)
