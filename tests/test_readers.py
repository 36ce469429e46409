"""Readers: what makes one, what it tells, when two are equal; single ones, renamed ones."""

import itertools

from tests.tools import LAST_WAYS, PromiseCase, full_reader, junk, last_reader, some_readers
from tworivals.errors import (InvalidLetter, InvalidLetters, InvalidOrder, InvalidReader, InvalidRoom, InvalidRooms,
                              InvalidWay, InvalidWays)
from tworivals.readers import Reader, is_single, renamed


class TestMakingReaders(PromiseCase):

    def test_any_sequence_list_or_tuple(self):
        for ways in itertools.islice(itertools.permutations(LAST_WAYS), 0, 40000, 997):
            for passed in (list(ways), ways):
                reader = self.ask(Reader, 2, 2, passed)
                self.exactly(reader.ways(), LAST_WAYS)
                self.exactly((reader.letters, reader.rooms, reader.many), (2, 2, 8))

    def test_letters(self):
        for letters in (1, 2, 3, 4):
            ways = [(0, letter, 0, 1) for letter in range(letters)]
            self.assertEqual(Reader(letters, 1, ways).letters, letters)
        for letters in (0, 5, -1, 10 ** 29):
            self.refuses(InvalidLetters, letters, Reader, letters, 1, [(0, 0, 0, 0)])
        self.refuses(InvalidLetters, 5, Reader, 5, 1, [(0, letter, 0, 1) for letter in range(5)])
        self.refuses_junk(InvalidLetters, Reader, None, 0, None, at=0)

    def test_rooms(self):
        for rooms in (1, 2, 11, 12):
            ways = [(room, 0, room, 1) for room in range(rooms)]
            self.assertEqual(Reader(1, rooms, ways).rooms, rooms)
        for rooms in (0, 13, -1, 10 ** 29):
            self.refuses(InvalidRooms, rooms, Reader, 1, rooms, [(0, 0, 0, 0)])
        self.refuses(InvalidRooms, 13, Reader, 1, 13, [(room, 0, room, 1) for room in range(13)])
        self.refuses_junk(InvalidRooms, Reader, 1, None, None, at=1)

    def test_how_many_ways(self):
        self.assertEqual(Reader(1, 1, [(0, 0, 0, 0)]).many, 1)
        reader = full_reader()
        self.assertEqual((reader.many, len(reader.ways())), (96, 96))
        more = [way for way in itertools.product(range(12), range(4), range(12), range(2)) if way not in reader.ways()]
        for way in more[::100]:
            ways = reader.ways() + [way]
            self.refuses(InvalidWays, ways, Reader, 4, 12, ways)
            # Without one of the others, whose room and letter have another one, these are ways.
            self.assertEqual(Reader(4, 12, ways[1:]).many, 96)
        self.refuses(InvalidWays, [], Reader, 1, 1, [])

    def test_what_ways_are(self):
        fine = [(0, 0, 0, 0), (0, 1, 1, 1), (1, 0, 0, 1), (1, 1, 1, 0)]
        self.assertEqual(Reader(2, 2, fine).ways(), fine)
        for wrong in ([0, 0, 0, 0], (0, 0, 0), (0, 0, 0, 0, 0), (), None, 0, "0000", (2, 0, 0, 0), (0, 2, 0, 0),
                      (0, 0, 2, 0), (0, 0, 0, 2), (-1, 0, 0, 0), (0, -1, 0, 0), (0, 0, -1, 0), (0, 0, 0, -1),
                      (False, 0, 0, 0), (0, False, 0, 0), (0, 0, False, 0), (0, 0, 0, False), (0, 0, 0, True),
                      (True, 0, 0, 0), (0, 0, True, 0), ([], 0, 0, 0), (0, {}, 0, 0), (0, 0, (0,), 0), (0, 0, 0, None),
                      (0, 0, 0, "clean"), b"\0\0\0\0"):
            for ways in ([wrong] + fine[1:], fine + [wrong], tuple(fine) + (wrong,)):
                self.refuses(InvalidWays, ways, Reader, 2, 2, ways)

    def test_unlike_ways(self):
        for way in LAST_WAYS:
            ways = LAST_WAYS + [way]
            self.refuses(InvalidWays, ways, Reader, 2, 2, ways)
        self.assertEqual(Reader(1, 1, [(0, 0, 0, 1), (0, 0, 0, 0)]).ways(), [(0, 0, 0, 0), (0, 0, 0, 1)])

    def test_a_way_for_each_room_and_letter(self):
        fine = [(0, 0, 0, 0), (0, 1, 1, 1), (1, 0, 0, 1), (1, 1, 1, 0)]
        for way in fine:
            ways = [other for other in fine if other != way]
            self.refuses(InvalidWays, ways, Reader, 2, 2, ways)
            ways = ways + [(way[0], 1 - way[1], 1, 0), (way[0], 1 - way[1], 0, 0)]
            self.refuses(InvalidWays, ways, Reader, 2, 2, ways)
        self.refuses(InvalidWays, fine, Reader, 2, 3, fine)
        self.refuses(InvalidWays, fine, Reader, 3, 2, fine)
        self.refuses(InvalidWays, fine, Reader, 1, 2, fine)
        self.refuses(InvalidWays, fine, Reader, 2, 1, fine)

    def test_ways_of_other_kinds(self):
        self.refuses_junk(InvalidWays, Reader, 1, 1, None, at=2)
        for ways in ({(0, 0, 0, 0)}, {(0, 0, 0, 0): 0}, iter([(0, 0, 0, 0)]), "way 0 0 0 clean"):
            self.refuses(InvalidWays, ways, Reader, 1, 1, ways)

    def test_first_wrong_parameter_decides(self):
        self.refuses(InvalidLetters, True, Reader, True, True, None)
        self.refuses(InvalidRooms, True, Reader, 1, True, None)
        self.refuses(InvalidWays, None, Reader, 1, 1, None)


class TestReader(PromiseCase):

    def test_defined_in_the_class(self):
        for name in ("letters", "rooms", "many", "ways", "way", "ways_by", "__eq__", "__init__"):
            self.assertIn(name, vars(Reader))

    def test_ways(self):
        for reader in some_readers(30) + [full_reader()]:
            ways = self.ask(reader.ways)
            self.assertEqual(ways, sorted(ways))
            self.assertEqual(reader.many, len(ways))
            for number, way in enumerate(ways):
                self.gives(way, reader.way, number)
            for room in range(reader.rooms):
                for letter in range(reader.letters):
                    numbers = [number for number, way in enumerate(ways) if way[:2] == (room, letter)]
                    self.gives(numbers, reader.ways_by, room, letter)

    def test_wrong_numbers(self):
        reader = last_reader()
        self.gives((0, 0, 0, 0), reader.way, 0)
        self.gives((1, 1, 1, 0), reader.way, 7)
        for number in (8, -1, -8, 10 ** 29, -(10 ** 29)):
            self.refuses(InvalidWay, number, reader.way, number)
        self.refuses_junk(InvalidWay, reader.way, None, at=0)

    def test_wrong_rooms_and_letters(self):
        reader = Reader(2, 3, [(room, letter, 0, 1) for room in range(3) for letter in range(2)])
        self.gives([5], reader.ways_by, 2, 1)
        for room in (3, -1, -3, 10 ** 29):
            self.refuses(InvalidRoom, room, reader.ways_by, room, 1)
        for letter in (2, -1, -2, 10 ** 29):
            self.refuses(InvalidLetter, letter, reader.ways_by, 2, letter)
        self.refuses_junk(InvalidRoom, reader.ways_by, None, None, at=0)
        self.refuses_junk(InvalidLetter, reader.ways_by, 0, None, at=1)

    def test_told_lists_are_new(self):
        reader = last_reader()
        reader.ways().clear()
        reader.ways_by(0, 0).append(7)
        self.exactly(reader.ways(), LAST_WAYS)
        self.exactly(reader.ways_by(0, 0), [0, 1])

    def test_never_changes(self):
        ways = [(0, 0, 0, 1), (0, 0, 0, 0)]
        reader = Reader(1, 1, ways)
        self.assertEqual(ways, [(0, 0, 0, 1), (0, 0, 0, 0)])
        ways.append(None)
        ways[0] = (5, 5, 5, 5)
        self.exactly(reader.ways(), [(0, 0, 0, 0), (0, 0, 0, 1)])
        self.exactly(reader.ways_by(0, 0), [0, 1])
        self.assertEqual((reader.many, reader.way(1)), (2, (0, 0, 0, 1)))

    def test_equal(self):
        self.assertIs(last_reader() == last_reader(), True)
        self.assertIs(last_reader() != last_reader(), False)
        self.assertIs(last_reader() == Reader(2, 2, tuple(LAST_WAYS[::-1])), True)
        readers = [
            last_reader(), Reader(2, 2, LAST_WAYS[1:]), Reader(1, 1, [(0, 0, 0, 0)]), Reader(1, 1, [(0, 0, 0, 1)]),
            Reader(1, 2, [(0, 0, 0, 0), (1, 0, 0, 0)]), Reader(2, 1, [(0, 0, 0, 0), (0, 1, 0, 0)]),
            Reader(1, 1, [(0, 0, 0, 0), (0, 0, 0, 1)])]
        for at, reader in enumerate(readers):
            for place, other in enumerate(readers):
                self.assertIs(reader == other, at == place)
                self.assertIs(reader != other, at != place)

    def test_not_equal_to_other_kinds(self):
        reader = Reader(1, 1, [(0, 0, 0, 0)])
        for value in junk() + [(1, 1, [(0, 0, 0, 0)]), reader.ways()]:
            if not isinstance(value, Reader):
                self.assertIs(reader == value, False)
                self.assertIs(value == reader, False)
                self.assertIs(reader != value, True)


class TestSingle(PromiseCase):

    def test_single(self):
        self.gives(False, is_single, last_reader())
        self.gives(True, is_single, Reader(1, 1, [(0, 0, 0, 1)]))
        self.gives(True, is_single, Reader(2, 2, [(0, 0, 1, 1), (0, 1, 1, 1), (1, 0, 0, 0), (1, 1, 0, 0)]))
        self.gives(False, is_single, Reader(1, 1, [(0, 0, 0, 0), (0, 0, 0, 1)]))
        self.gives(False, is_single, Reader(1, 2, [(0, 0, 0, 0), (1, 0, 0, 0), (1, 0, 1, 0)]))

    def test_by_choices(self):
        for reader in some_readers(60):
            starts = [way[:2] for way in reader.ways()]
            self.gives(all(starts.count(start) == 1 for start in starts), is_single, reader)

    def test_wrong(self):
        self.refuses_junk(InvalidReader, is_single, None, at=0, fine=[Reader(1, 1, [(0, 0, 0, 0)])])


class TestRenamed(PromiseCase):

    def test_by_each_order(self):
        for reader in some_readers(25):
            for rest in itertools.islice(itertools.permutations(range(1, reader.rooms)), 8):
                order = [0, *rest]
                ways = sorted((order.index(room), letter, order.index(to), slip)
                              for room, letter, to, slip in reader.ways())
                for passed in (order, tuple(order)):
                    told = self.ask(renamed, reader, passed)
                    self.exactly(told.ways(), ways)
                    self.exactly((told.letters, told.rooms), (reader.letters, reader.rooms))

    def test_entry_p_becomes_p(self):
        # An order that isn't its own contrary tells both directions apart.
        reader = Reader(1, 4, [(0, 0, 1, 0), (1, 0, 2, 0), (2, 0, 3, 0), (3, 0, 3, 1)])
        told = renamed(reader, [0, 2, 3, 1])
        self.exactly(told.ways(), [(0, 0, 3, 0), (1, 0, 2, 0), (2, 0, 2, 1), (3, 0, 1, 0)])

    def test_all_rooms(self):
        reader = full_reader()
        order = [0, *range(11, 0, -1)]
        self.assertEqual(renamed(renamed(reader, order), order), reader)
        self.assertEqual(renamed(reader, list(range(12))), reader)

    def test_wrong_orders(self):
        reader = Reader(1, 3, [(0, 0, 1, 0), (1, 0, 2, 0), (2, 0, 0, 0)])
        for order in ([1, 0, 2], [0, 1], [0, 1, 2, 2], [0, 1, 1], [0, 1, 3], [0, 1, -1], [], [0, 1, 2, 3],
                      [False, 1, 2], [0, True, 2], (0, 2, True), [0, 1, None], [0, [], 1], "012", b"012", range(3),
                      {0, 1, 2}, {0: 0, 1: 1, 2: 2}, iter([0, 1, 2])):
            self.refuses(InvalidOrder, order, renamed, reader, order)
        self.refuses_junk(InvalidOrder, renamed, reader, None, at=1)
        self.refuses_junk(InvalidReader, renamed, None, None, at=0, fine=[Reader(1, 1, [(0, 0, 0, 0)])])
