"""Spots, clean rings, least heights, and what are heights for a row."""

import random

from tests import oracles
from tests.tools import (PromiseCase, clean_reader, full_reader, junk, last_reader, slip_reader, some_readers, some_rows,
                         step_reader, told_otherwise)
from tworivals.errors import InvalidReader, InvalidRow
from tworivals.heights import clean_ring, height_paper, is_height_paper, least_heights, spots
from tworivals.readers import Reader

ONE = [Reader(1, 1, [(0, 0, 0, 0)])]
ALL = (spots, clean_ring, least_heights, height_paper)


def chain_reader(rooms):
    """By each letter one goes on to the next room, cleanly; in the last one all slips."""
    return Reader(1, rooms, [(room, 0, min(room + 1, rooms - 1), room // (rooms - 1)) for room in range(rooms)])


class TestSpots(PromiseCase):

    def test_spots(self):
        self.gives([(0, 0), (0, 1)], spots, last_reader(), ((), (0,)))
        self.gives([(0, 0)], spots, slip_reader(), ((), (0,)))
        self.gives([(0, 0), (1, 0), (2, 0)], spots, slip_reader(), ((0,), (0, 0)))
        self.gives([(0, 0), (1, 0), (1, 1)], spots, last_reader(), ((0,), (0,)))

    def test_behind_the_last_position_comes_the_first_of_again(self):
        reader = Reader(1, 4, [(0, 0, 1, 1), (1, 0, 2, 1), (2, 0, 3, 1), (3, 0, 1, 1)])
        self.gives([(0, 0), (1, 1), (1, 2), (1, 3), (2, 1), (2, 2), (2, 3)], spots, reader, ((0,), (0, 0)))
        self.gives([(0, 0), (1, 1), (2, 2), (3, 1), (3, 2), (3, 3)], spots, reader, ((0, 0, 0), (0,)))

    def test_by_walking(self):
        for reader in some_readers(80) + [full_reader()]:
            for row in some_rows(reader.letters, 4, reader.many):
                self.gives(oracles.coming_spots(reader, row), spots, reader, row)

    def test_long_rows(self):
        row = ((1,) * 40, (0,) * 39 + (1,))
        self.gives(oracles.coming_spots(step_reader(3), row), spots, step_reader(3), row)
        self.assertEqual(len(spots(step_reader(3), row)), 40 + 480)


class TestCleanRing(PromiseCase):

    def ring(self, reader, row):
        told = self.ask(clean_ring, reader, row, exact=False)
        if not oracles.is_let(reader, row):
            self.assertIsNone(told)
            return None
        self.assertIs(type(told), list)
        self.assertTrue(told)
        self.assertEqual(len(set(told)), len(told))
        self.assertIn(told[0], oracles.coming_spots(reader, row))
        for spot, after in zip(told, told[1:] + told[:1]):
            self.assertEqual([type(part) for part in (spot, *spot)], [tuple, int, int])
            self.assertIn(after, [to for way, to in oracles.leads(reader, row, spot) if not way[3]])
        return told

    def test_rings(self):
        self.assertEqual(self.ring(last_reader(), ((0,), (1,))), [(1, 1)])
        self.assertIsNone(self.ring(last_reader(), ((), (0, 1))))
        self.assertEqual(len(self.ring(step_reader(0), ((), (0,) * 39 + (1,)))), 480)
        self.assertIsNone(self.ring(Reader(1, 2, [(0, 0, 0, 1), (1, 0, 1, 0)]), ((), (0,))))

    def test_by_rounds(self):
        for reader in some_readers(120):
            for row in some_rows(reader.letters, 5, reader.many):
                for other in [row] + told_otherwise(row)[:2]:
                    self.ring(reader, other)


class TestHeights(PromiseCase):

    def least(self, reader, row):
        expected = oracles.least_heights(reader, row)
        self.gives(expected, least_heights, reader, row)
        paper = self.ask(height_paper, reader, row, exact=False)
        self.assertEqual(paper is None, expected is None)
        self.assertEqual(expected is None, oracles.is_let(reader, row))
        if paper is not None:
            self.assertIs(type(paper), list)
            self.assertTrue(oracles.are_heights(reader, row, paper))
            self.gives(True, is_height_paper, reader, row, paper)
            self.gives(True, is_height_paper, reader, row, expected)
        return expected

    def test_least(self):
        self.gives([(0, 0, 1), (0, 1, 0), (1, 0, 0), (1, 1, 1)], least_heights, last_reader(), ((), (0, 1)))
        self.gives(None, least_heights, last_reader(), ((0,), (1,)))
        self.gives(None, height_paper, last_reader(), ((0,), (1,)))
        self.gives([(0, 0, 0)], least_heights, slip_reader(), ((), (0,)))
        self.gives([(0, room, 11 - room) for room in range(12)], least_heights, chain_reader(12), ((), (0,)))

    def test_the_most_ways_count(self):
        # From room 0 one clean way ends at once, another one goes on; the longer one counts.
        reader = Reader(1, 4, [(0, 0, 3, 0), (0, 0, 1, 0), (1, 0, 2, 0), (2, 0, 3, 0), (3, 0, 3, 1)])
        self.gives([(0, 0, 3), (0, 1, 2), (0, 2, 1), (0, 3, 0)], least_heights, reader, ((), (0,)))
        reader = Reader(1, 3, [(0, 0, 1, 0), (0, 0, 2, 1), (1, 0, 1, 1), (2, 0, 1, 0)])
        self.gives([(0, 0, 1), (0, 1, 0), (0, 2, 1)], least_heights, reader, ((), (0,)))

    def test_by_growing(self):
        told = 0
        for reader in some_readers(120):
            for row in some_rows(reader.letters, 5, reader.many):
                told += self.least(reader, row) is not None
        self.assertGreater(told, 100)

    def test_long_rows(self):
        for reader in (step_reader(12), step_reader(1), chain_reader(12), full_reader()):
            self.least(reader, ((0,) * 40, (0,) * 39 + (reader.letters - 1,)))

    def test_the_same_row_told_otherwise(self):
        for reader in some_readers(30):
            for row in some_rows(reader.letters, 2, reader.many):
                for other in told_otherwise(row):
                    self.assertEqual(self.least(reader, other) is None, least_heights(reader, row) is None)


class TestIsHeightPaper(PromiseCase):

    def changed(self, source, reader, row, paper):
        """Values with one thing otherwise, some of them heights all the same."""
        yield from [tuple(paper), paper[1:], paper[:-1], paper[::-1], paper + paper[-1:], [list(item) for item in paper],
                    dict.fromkeys(paper), None, [], (), set(paper)]
        many = len(row[0]) + len(row[1])
        spare = [(position, room) for position in range(many) for room in range(reader.rooms)]
        for number in (0, 1, 50):
            position, room = source.choice(spare)
            yield sorted(paper + [(position, room, number)])
        yield sorted(paper + [(many, 0, 0)])
        yield sorted(paper + [(0, reader.rooms, 0)])
        for at, item in enumerate(paper):
            yield paper[:at] + paper[at + 1:]
            yield paper[:at] + [item, item] + paper[at + 1:]
            yield paper[:at] + [item, (*item[:2], item[2] + 1)] + paper[at + 1:]
            for number in (item[2] + 1, item[2] - 1, 0, 9, 9999999, 10000000, 10 ** 29, -1, True, False, None, "0", [0]):
                yield paper[:at] + [(*item[:2], number)] + paper[at + 1:]
            for other in (item[:2], item + (0,), list(item), None, (item[1], item[0], item[2]), (-1, *item[1:]),
                          (item[0], -1, item[2]), (bool(item[0]), *item[1:]), (item[0], bool(item[1]), item[2]),
                          ([], *item[1:]), (item[0], {}, item[2])):
                yield paper[:at] + [other] + paper[at + 1:]

    def test_by_definition(self):
        source = random.Random(6)
        yes = no = 0
        for reader in some_readers(100):
            for row in some_rows(reader.letters, 2, reader.many):
                paper = oracles.least_heights(reader, row)
                if paper is None:
                    come = oracles.coming_spots(reader, row)
                    paper = [(*spot, source.randrange(5)) for spot in come]
                higher = [(position, room, 2 * number + 1) for position, room, number in paper]
                for heights in [paper, higher]:
                    for value in [heights] + list(self.changed(source, reader, row, heights)):
                        fits = oracles.are_heights(reader, row, value)
                        self.assertIs(is_height_paper(reader, row, value), fits, (reader.ways(), row, value))
                        yes, no = yes + fits, no + (not fits)
        self.assertGreater(yes, 1000)
        self.assertGreater(no, 10000)

    def test_all_spots_may_have_heights(self):
        reader, row = Reader(1, 3, [(0, 0, 0, 1), (1, 0, 0, 0), (2, 0, 1, 0)]), ((), (0,))
        for paper, fits in (([(0, 0, 0)], True), ([(0, 0, 0), (0, 1, 1)], True), ([(0, 0, 0), (0, 2, 5)], False),
                            ([(0, 0, 0), (0, 1, 0)], False), ([(0, 0, 0), (0, 1, 1), (0, 2, 2)], True),
                            ([(0, 1, 1)], False), ([(0, 0, 0), (0, 1, 1), (0, 2, 1)], False)):
            self.gives(fits, is_height_paper, reader, row, paper)

    def test_no_first_spot(self):
        # Closed, and falling, but it says nothing of where runs begin.
        reader = Reader(1, 2, [(0, 0, 1, 1), (1, 0, 1, 1)])
        self.gives(False, is_height_paper, reader, ((), (0,)), [(0, 1, 0)])
        self.gives(True, is_height_paper, reader, ((), (0,)), [(0, 0, 0), (0, 1, 0)])

    def test_slips_may_rise_but_not_leave(self):
        reader = Reader(1, 2, [(0, 0, 1, 1), (1, 0, 0, 1)])
        self.gives(True, is_height_paper, reader, ((), (0,)), [(0, 0, 0), (0, 1, 9999999)])
        self.gives(False, is_height_paper, reader, ((), (0,)), [(0, 0, 0)])

    def test_digits(self):
        for number, fits in ((0, True), (9999999, True), (10000000, False), (10 ** 29, False), (-1, False)):
            self.gives(fits, is_height_paper, slip_reader(), ((), (0,)), [(0, 0, number)])
        self.gives(False, is_height_paper, slip_reader(), ((), (0,)), [(0, 0, True)])
        self.gives(False, is_height_paper, slip_reader(), ((), (0,)), [(0, False, 0)])
        self.gives(False, is_height_paper, slip_reader(), ((), (0,)), [(False, 0, 0)])

    def test_any_value(self):
        for value in junk():
            self.assertIs(is_height_paper(slip_reader(), ((), (0,)), value), False)
            self.assertIs(is_height_paper(slip_reader(), ((), (0,)), [value]), False)
            self.assertIs(is_height_paper(slip_reader(), ((), (0,)), [(0, 0, value)]), False)
            self.assertIs(is_height_paper(slip_reader(), ((), (0,)), [(value, 0, 0)]), False)
            self.assertIs(is_height_paper(slip_reader(), ((), (0,)), [(0, value, 0)]), False)
        self.gives(True, is_height_paper, slip_reader(), ((), (0,)), ((0, 0, 0),))

    def test_wrong_parameters(self):
        for function in ALL:
            self.refuses_junk(InvalidReader, function, None, None, at=0, fine=ONE)
            self.refuses_junk(InvalidRow, function, last_reader(), None, at=1)
            for row in (((), (2,)), ((2,), (0,)), ((), (0,) * 41), ((0,) * 41, (0,)), [(), (0,)], ((), [0])):
                self.refuses(InvalidRow, row, function, last_reader(), row)
            self.ask(function, clean_reader(3), ((2,), (0,)))
        self.refuses_junk(InvalidReader, is_height_paper, None, None, None, at=0, fine=ONE)
        self.refuses_junk(InvalidRow, is_height_paper, last_reader(), None, [], at=1)
        self.refuses(InvalidRow, ((), (2,)), is_height_paper, last_reader(), ((), (2,)), [])
