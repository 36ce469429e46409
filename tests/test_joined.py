"""Readers of both and of either of two readers."""

from tests import oracles, play_oracles, wish_oracles
from tests.play_oracles import doubtful_readers, small_readers
from tests.tools import (PromiseCase, clean_reader, full_reader, last_reader, round_reader, slip_reader, some_readers,
                         some_rows)
from tests.wish_limits import (BOTH_12_ROOMS, BOTH_13_ROOMS, BOTH_96_WAYS, BOTH_97_WAYS, EITHER_12_ROOMS,
                               EITHER_13_ROOMS, EITHER_96_WAYS, EITHER_97_WAYS, readers_at)
from tests.wish_oracles import some_pairs
from tworivals.errors import InvalidReader
from tworivals.joined import both_of, either_of
from tworivals.plays import has_chooser
from tworivals.readers import Reader, is_single
from tworivals.runs import lets_by

ONE = [Reader(1, 1, [(0, 0, 0, 0)])]


def near_reader():
    return Reader(2, 1, [(0, 0, 0, 0), (0, 1, 0, 1)])


def away_reader():
    return Reader(2, 1, [(0, 0, 0, 1), (0, 1, 0, 0)])


def pairs():
    told = some_pairs(200, 51, letters=(1, 2, 3, 4), rooms=(1, 2, 3, 4))
    for reader in some_readers(40, 52):
        told += [(reader, reader), (reader, clean_reader(reader.letters)), (slip_reader(reader.letters), reader)]
    return told


class TestJoined(PromiseCase):

    def checked(self, function, reader, other):
        """It is told by its words, or there is too much of it; what is told, None without it."""
        rooms, ways = wish_oracles.joined(reader, other, function is either_of)
        if len(rooms) > 12:
            self.too_many("rooms", 12, function, reader, other)
            return None
        if len(ways) > 96:
            self.too_many("ways", 96, function, reader, other)
            return None
        told = Reader(reader.letters, len(rooms), ways)
        self.gives(told, function, reader, other)
        return told

    def test_examples(self):
        near, away = near_reader(), away_reader()
        self.gives(Reader(2, 1, [(0, 0, 0, 1), (0, 1, 0, 1)]), both_of, near, away)
        self.gives(near, both_of, near, near)
        self.gives(Reader(2, 2, [(0, 0, 0, 0), (0, 1, 1, 1), (1, 0, 0, 1), (1, 1, 1, 0)]), either_of, near, away)
        # The other one ahead: it is trusted first.
        self.gives(Reader(2, 2, [(0, 0, 1, 1), (0, 1, 0, 0), (1, 0, 1, 0), (1, 1, 0, 1)]), either_of, away, near)
        self.gives(Reader(2, 2, [(0, 0, 0, 0), (0, 1, 1, 1), (1, 0, 1, 0), (1, 1, 0, 1)]), either_of, near, near)
        # Who never slips is never left.
        self.gives(clean_reader(3), either_of, clean_reader(3), slip_reader(3))
        self.gives(Reader(3, 2, [(0, letter, 1, 1) for letter in range(3)] + [(1, letter, 1, 0) for letter in range(3)]),
                   either_of, slip_reader(3), clean_reader(3))

    def test_the_sequence_of_rooms(self):
        one = Reader(2, 3, [(0, 0, 2, 0), (0, 1, 1, 0), (1, 0, 0, 0), (1, 1, 0, 1), (2, 0, 1, 0), (2, 1, 2, 1)])
        # Rooms come as (0, 0), (2, 0), (1, 0): by the letter 0 first.
        self.gives(Reader(2, 3, [(0, 0, 1, 0), (0, 1, 2, 0), (1, 0, 2, 0), (1, 1, 1, 1), (2, 0, 0, 0), (2, 1, 0, 1)]),
                   both_of, one, clean_reader(2))
        self.gives(Reader(2, 3, [(0, 0, 1, 0), (0, 1, 2, 0), (1, 0, 2, 0), (1, 1, 1, 1), (2, 0, 0, 0), (2, 1, 0, 1)]),
                   both_of, clean_reader(2), one)
        # Ways of the first one go ahead of those of the other one: (0, 0), (0, 1), (1, 0), (1, 1).
        stay = Reader(1, 2, [(0, 0, 0, 0), (0, 0, 1, 0), (1, 0, 1, 0)])
        rooms, _ = wish_oracles.joined(stay, stay, False)
        self.assertEqual(rooms, [(0, 0), (0, 1), (1, 0), (1, 1)])
        self.gives(Reader(1, 4, [(0, 0, 0, 0), (0, 0, 1, 0), (0, 0, 2, 0), (0, 0, 3, 0), (1, 0, 1, 0), (1, 0, 3, 0), (2, 0, 2, 0),
                                 (2, 0, 3, 0), (3, 0, 3, 0)]), both_of, stay, stay)

    def test_like_ways_are_one(self):
        slips = Reader(1, 1, [(0, 0, 0, 0), (0, 0, 0, 1)])
        self.gives(slips, both_of, slips, slips)
        self.gives(Reader(1, 2, [(0, 0, 0, 0), (0, 0, 1, 1), (1, 0, 0, 1), (1, 0, 1, 0)]), either_of, slips, slips)

    def test_by_words(self):
        told = {both_of: 0, either_of: 0}
        for reader, other in pairs():
            for function in (both_of, either_of):
                told[function] += self.checked(function, reader, other) is not None
        self.assertGreater(min(told.values()), 150)

    def test_which_rows_they_let_by(self):
        found = {}
        for reader, other in pairs():
            both, either = self.checked(both_of, reader, other), self.checked(either_of, reader, other)
            for row in some_rows(reader.letters, 4, reader.many):
                one, two = oracles.is_let(reader, row), oracles.is_let(other, row)
                if both is not None:
                    self.assertEqual(lets_by(both, row), one and two)
                if either is not None:
                    self.assertEqual(lets_by(either, row), one or two)
                found[(one, two)] = found.get((one, two), 0) + 1
        self.assertEqual(len(found), 4)
        self.assertGreater(min(found.values()), 50)

    def test_choosers_and_choices(self):
        many = 0
        readers = small_readers(60, 53, sizes=((1, 2), (2, 2), (2, 1))) + doubtful_readers(10, 53)
        for reader, other in zip(readers, readers[1:]):
            if reader.letters != other.letters:
                continue
            for function in (both_of, either_of):
                told = self.checked(function, reader, other)
                if told is None or is_single(reader) and is_single(other) and not is_single(told):
                    self.assertIsNone(told)
                    continue
                boards = [play_oracles.letter_board(one)[0] for one in (reader, other, told)]
                if None not in boards and has_chooser(reader) and has_chooser(other):
                    self.assertTrue(has_chooser(told))
                    many += 1
        self.assertGreater(many, 20)

    def test_single_readers(self):
        for reader, other in ((round_reader(3, [1]), round_reader(4, [0])), (near_reader(), away_reader()),
                              (round_reader(2), round_reader(5, [1, 2]))):
            for function in (both_of, either_of):
                told = self.checked(function, reader, other)
                self.assertTrue(told is None or is_single(told))

    def test_12_rooms(self):
        for function, fits, too_many in ((both_of, BOTH_12_ROOMS, BOTH_13_ROOMS), (either_of, EITHER_12_ROOMS, EITHER_13_ROOMS)):
            self.assertEqual(self.checked(function, *readers_at(fits)).rooms, 12)
            self.assertEqual(len(wish_oracles.joined(*readers_at(too_many), function is either_of)[0]), 13)
            self.too_many("rooms", 12, function, *readers_at(too_many))
        self.assertEqual(self.checked(both_of, round_reader(3), round_reader(4)).rooms, 12)
        self.too_many("rooms", 12, both_of, round_reader(5), round_reader(3))

    def test_96_ways(self):
        for function, fits, too_many in ((both_of, BOTH_96_WAYS, BOTH_97_WAYS), (either_of, EITHER_96_WAYS, EITHER_97_WAYS)):
            self.assertEqual(self.checked(function, *readers_at(fits)).many, 96)
            self.assertEqual(len(wish_oracles.joined(*readers_at(too_many), function is either_of)[1]), 97)
            self.too_many("ways", 96, function, *readers_at(too_many))

    def test_rooms_come_first(self):
        full = full_reader()
        rooms, ways = wish_oracles.joined(full, full, False)
        self.assertGreater(len(rooms), 12)
        self.assertGreater(len(ways), 96)
        for function in (both_of, either_of):
            self.too_many("rooms", 12, function, full, full)

    def test_wrong(self):
        for function in (both_of, either_of):
            self.refuses_junk(InvalidReader, function, None, None, at=0, fine=ONE)
            self.refuses_junk(InvalidReader, function, last_reader(), None, at=1, fine=ONE)
            self.unlike_letters(function, full_reader(), last_reader())
            self.unlike_letters(function, slip_reader(1), slip_reader(2))
