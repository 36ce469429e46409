"""Choosers as tables: their runs, whether they are right, and wrong rows."""

import math
import random

from tests import oracles, play_oracles
from tests.limits import (LETTER_601_LOST, LETTER_601_WON, STANDINGS_60_WON, STANDINGS_61_LOST, STANDINGS_61_WON,
                          reader_at)
from tests.play_oracles import GUESS, LONE, ONCE, PARTS, doubtful_readers, small_readers, some_table
from tests.tools import (WAYS_400, WAYS_401, PromiseCase, clean_reader, full_reader, junk, kinds, last_reader,
                         round_reader, slip_reader, some_readers, some_rows, step_reader, told_otherwise)
from tworivals.choosers import chooser_of, is_chooser, is_table, is_wrong_row, keeps, run_by, wrong_row
from tworivals.errors import InvalidReader, InvalidRow, InvalidTable
from tworivals.plays import chooser_paper, has_chooser
from tworivals.readers import Reader, renamed
from tworivals.rows import rows_to
from tworivals.runs import is_run, lets_by, slips_of

FIRST = ((0,), (0,))
ONE = [Reader(1, 1, [(0, 0, 0, 0)])]
GOOD = [[[(0, 0), (3, 0)], [(4, 0), (7, 0)]]]
STAY = [[[(0, 0), (2, 0)], [(4, 0), (6, 0)]]]


def only_table(reader, memories=1):
    """A table that takes the first way always, and goes from memory to memory, round."""
    return [[[(reader.ways_by(room, letter)[0], (memory + 1) % memories) for letter in range(reader.letters)]
             for room in range(reader.rooms)] for memory in range(memories)]


def wrong_tables():
    """Values that are no tables for the reader of the examples."""
    good = GOOD[0]
    return [[], (), [[]], [[[], []]], GOOD[0], [good[0]], [[good[0]]], [good + [good[0]]], [[good[1], good[0]]],
            [[good[0], good[1][:1]]], [[good[0], good[1] * 2]], [[good[0], [(4, 0), (7, 1)]]],
            [[good[0], [(4, 0), (7, -1)]]], [[good[0], [(4, 0), (8, 0)]]], [[good[0], [(4, 0), (-1, 0)]]],
            [[good[0], [(4, 0), (0, 0)]]], [[good[0], [(4, 0), (5, 0)]]], [[good[0], [(7, 0), (4, 0)]]],
            [[good[0], [[4, 0], (7, 0)]]], [[good[0], [(4, 0), (7,)]]], [[good[0], [(4, 0), (7, 0, 0)]]],
            [[good[0], [(4, False), (7, 0)]]], [[[(False, 0), (3, 0)], good[1]]], [[good[0], [(4, None), (7, 0)]]],
            [[good[0], [("4", 0), (7, 0)]]], [[good[0], [([4], 0), (7, 0)]]], [[good[0], {0: (4, 0), 1: (7, 0)}]],
            [{0: good[0], 1: good[1]}], {0: good}, [good, good[0]], [good, None], [None], [[None, None]],
            [[good[0], "47"]], [[good[0], 0]], [good] * 61, [good] * 60 + [None], [[good[0], [(4, 0), 7]]],
            [good, [good[0], [(4, 0), (7, 2)]]]]


class TestIsTable(PromiseCase):

    def test_last(self):
        self.gives(True, is_table, last_reader(), GOOD)
        self.gives(True, is_table, last_reader(), ((((0, 0), (3, 0)), ((4, 0), (7, 0))),))
        self.gives(True, is_table, last_reader(), ([([(0, 0), (3, 0)]), ((4, 0), (7, 0))],))
        for value in wrong_tables():
            self.gives(False, is_table, last_reader(), value)
            self.assertIs(play_oracles.is_table(last_reader(), value), False)

    def test_60_memories(self):
        for memories in (1, 2, 60):
            self.gives(True, is_table, last_reader(), only_table(last_reader(), memories))
        self.gives(False, is_table, last_reader(), only_table(last_reader(), 61))
        self.gives(True, is_table, full_reader(), only_table(full_reader(), 60))
        table = only_table(full_reader(), 60)
        table[59][11][3] = (table[59][11][3][0], 60)
        self.gives(False, is_table, full_reader(), table)

    def test_by_definition(self):
        source = random.Random(1)
        found = {True: 0, False: 0}
        for reader in some_readers(100):
            for memories in (1, 2, 3):
                table = some_table(source, reader, memories)
                self.gives(True, is_table, reader, table)
                for _ in range(10):
                    other = [[list(room) for room in rooms] for rooms in table]
                    room, letter = source.randrange(reader.rooms), source.randrange(reader.letters)
                    other[source.randrange(memories)][room][letter] = (source.randrange(reader.many),
                                                                       source.randrange(memories + 1))
                    fits = play_oracles.is_table(reader, other)
                    self.gives(fits, is_table, reader, other)
                    found[fits] += 1
        self.assertGreater(min(found.values()), 200)

    def test_any_value(self):
        for value in junk():
            for told in (value, [value], [[value]], [[[value]]], [[[(value, 0)]]], [[[(0, value)]]], [[[(0, 0)]], value],
                         [[[(0, 0)], value]], [[[(0, 0), value]]]):
                self.assertIs(is_table(ONE[0], told), play_oracles.is_table(ONE[0], told), told)

    def test_wrong(self):
        self.refuses_junk(InvalidReader, is_table, None, None, at=0, fine=ONE)


class TestRunBy(PromiseCase):

    def test_last(self):
        self.gives(([0, 3], [7]), run_by, last_reader(), GOOD, ((0,), (1,)))
        self.gives(([], [0]), run_by, last_reader(), GOOD, ((), (0,)))
        self.gives(([0], [2]), run_by, last_reader(), STAY, ((0,), (1,)))
        self.gives(([], [3, 4]), run_by, last_reader(), GOOD, ((), (1, 0)))

    def test_memories(self):
        reader = Reader(1, 1, [(0, 0, 0, 0), (0, 0, 0, 1)])
        self.gives(([1, 0, 1], [1, 0]), run_by, reader, [[[(1, 1)]], [[(0, 2)]], [[(1, 3)]], [[(1, 4)]], [[(0, 3)]]],
                   ((), (0,)))
        self.gives(([1], [0, 1, 1, 0, 1, 1]), run_by, reader, [[[(1, 1)]], [[(0, 2)]], [[(1, 3)]], [[(1, 1)]]],
                   ((0,), (0, 0)))

    def test_by_going(self):
        source = random.Random(2)
        for reader in some_readers(80):
            for memories in (1, 2, 4):
                table = some_table(source, reader, memories)
                for row in some_rows(reader.letters, 3, reader.many):
                    for other in [row] + told_otherwise(row)[:1]:
                        told = play_oracles.run_by(reader, table, other)
                        self.gives(told, run_by, reader, table, other)
                        self.assertIs(is_run(reader, other, told), True)
                        self.gives(slips_of(reader, told)[1] == 0, keeps, reader, table, other)

    def test_just_520_and_480_ways(self):
        # Every round of 40 letters has a memory of its own, which goes on at the last letter; the last leads back.
        reader = Reader(2, 1, [(0, 0, 0, 1), (0, 1, 0, 1)])
        row = ((), (0,) * 39 + (1,))
        for head, loop in ((0, 1), (0, 12), (13, 12), (13, 1), (12, 12), (0, 13), (14, 1), (14, 13), (13, 13), (0, 60)):
            rounds = head + loop
            table = [[[(0, memory), (1, memory + 1 if memory + 1 < rounds else head)]] for memory in range(rounds)]
            self.limits((([0] * 39 + [1]) * head, ([0] * 39 + [1]) * loop), reader, table, row)
        # By one letter: 480 ways and some more of letters that are gone round by 60 memories.
        table = [[[(0, (memory + 1) % 60)]] for memory in range(60)]
        for again in (8, 12, 20, 30, 40, 7, 9, 11, 13):
            rounds = 60 // math.gcd(60, again)
            self.limits(([0] * 40, [0] * (rounds * again)), slip_reader(), table, ((0,) * 40, (0,) * again))

    def limits(self, expected, reader, table, row):
        head, loop = expected
        if len(head) > 520:
            self.too_many("head", 520, run_by, reader, table, row)
        elif len(loop) > 480:
            self.too_many("loop", 480, run_by, reader, table, row)
        else:
            self.gives(expected, run_by, reader, table, row)
        self.gives(False, keeps, reader, table, row)

    def test_a_head_of_letters_and_rounds(self):
        reader = Reader(2, 1, [(0, 0, 0, 0), (0, 1, 0, 0)])
        table = [[[(0, memory), (1, min(memory + 1, 12))]] for memory in range(13)]
        row = ((0,) * 40, (0,) * 39 + (1,))
        self.gives(([0] * 40 + ([0] * 39 + [1]) * 12, [0] * 39 + [1]), run_by, reader, table, row)
        table = [[[(0, memory), (1, min(memory + 1, 13))]] for memory in range(14)]
        self.too_many("head", 520, run_by, reader, table, row)
        self.gives(True, keeps, reader, table, row)

    def test_wrong(self):
        for function in (run_by, keeps):
            self.refuses_junk(InvalidReader, function, None, None, None, at=0, fine=ONE)
            self.refuses_junk(InvalidTable, function, last_reader(), None, None, at=1)
            for table in wrong_tables():
                self.refuses(InvalidTable, table, function, last_reader(), table, None)
            self.refuses_junk(InvalidRow, function, last_reader(), GOOD, None, at=2)
            for row in (((), (2,)), ((2,), (0,)), ((), (0,) * 41), [(), (0,)], ((), [0])):
                self.refuses(InvalidRow, row, function, last_reader(), GOOD, row)


class TestKeeps(PromiseCase):

    def test_last(self):
        self.gives(False, keeps, last_reader(), STAY, ((0,), (1,)))
        self.gives(True, keeps, last_reader(), STAY, ((1,), (0,)))
        self.gives(True, keeps, last_reader(), GOOD, ((0,), (1,)))
        self.gives(False, keeps, last_reader(), GOOD, ((), (0, 1)))

    def test_by_going(self):
        source = random.Random(3)
        found = {True: 0, False: 0}
        for reader in some_readers(80) + [full_reader(), step_reader(3)]:
            table = some_table(source, reader, 3)
            for row in some_rows(reader.letters, 5, reader.many):
                kept = play_oracles.keeps(reader, table, row)
                self.gives(kept, keeps, reader, table, row)
                found[kept] += 1
        self.assertGreater(min(found.values()), 50)

    def test_slips_of_the_head_do_not_count(self):
        reader = Reader(1, 2, [(0, 0, 1, 1), (1, 0, 1, 0)])
        self.gives(True, keeps, reader, only_table(reader), ((), (0,)))
        self.gives(([0], [1]), run_by, reader, only_table(reader), ((), (0,)))

    def test_without_too_many(self):
        reader = Reader(2, 1, [(0, 0, 0, 0), (0, 1, 0, 1)])
        table = [[[(0, memory), (1, (memory + 1) % 60)]] for memory in range(60)]
        self.gives(False, keeps, reader, table, ((), (0,) * 39 + (1,)))
        self.gives(True, keeps, reader, table, ((1,) * 40, (0,) * 40))
        self.too_many("loop", 480, run_by, reader, table, ((), (0,) * 39 + (1,)))


class TestIsChooser(PromiseCase):

    def test_last(self):
        self.gives(True, is_chooser, last_reader(), GOOD)
        self.gives(False, is_chooser, last_reader(), STAY)
        for value in [None] + wrong_tables():
            self.gives(False, is_chooser, last_reader(), value)

    def test_by_rings(self):
        source = random.Random(4)
        found = {True: 0, False: 0}
        for reader in small_readers(120, 21, sizes=((1, 2), (2, 2), (2, 3), (3, 2), (3, 3))) + doubtful_readers(80, 21):
            for memories in (1, 2, 3):
                table = some_table(source, reader, memories)
                right = play_oracles.is_right(reader, table)
                self.gives(right, is_chooser, reader, table)
                found[right] += 1
                if right:
                    self.assertIs(has_chooser(reader), True)
        self.assertGreater(min(found.values()), 100)

    def test_no_table_without_a_chooser(self):
        source = random.Random(5)
        for told in (GUESS, ONCE, PARTS, LONE):
            for _ in range(100):
                table = some_table(source, Reader(*told), source.randint(1, 5))
                self.gives(False, is_chooser, Reader(*told), table)

    def test_what_never_comes_does_not_count(self):
        # Memory 1 and room 1 are never come to.
        reader = Reader(1, 2, [(0, 0, 0, 0), (0, 0, 0, 1), (1, 0, 1, 0), (1, 0, 1, 1)])
        self.gives(True, is_chooser, reader, [[[(0, 0)], [(3, 0)]], [[(1, 1)], [(3, 1)]]])
        self.gives(False, is_chooser, reader, [[[(1, 0)], [(2, 0)]], [[(0, 1)], [(2, 1)]]])
        self.gives(True, is_chooser, reader, [[[(1, 1)], [(2, 0)]], [[(0, 1)], [(2, 1)]]])
        self.gives(False, is_chooser, reader, [[[(1, 1)], [(2, 0)]], [[(0, 0)], [(2, 1)]]])

    def test_more_standings(self):
        for reader in (full_reader(), Reader(3, 7, WAYS_401)):
            self.too_many("standings", 400, is_chooser, reader, only_table(reader))
            self.too_many("standings", 400, wrong_row, reader, only_table(reader, 60))
            for value in (None, [], 0, [only_table(reader)], only_table(reader)[0], only_table(reader, 61)):
                self.gives(False, is_chooser, reader, value)
        reader = Reader(2, 8, WAYS_400)
        table = some_table(random.Random(6), reader, 60)
        self.gives(play_oracles.is_right(reader, only_table(reader)), is_chooser, reader, only_table(reader))
        right = self.ask(is_chooser, reader, table)
        row = self.ask(wrong_row, reader, table, exact=False)
        self.assertEqual(right, row is None)

    def test_any_value(self):
        for value in junk():
            self.assertIs(is_chooser(last_reader(), value), False, value)

    def test_wrong(self):
        self.refuses_junk(InvalidReader, is_chooser, None, None, at=0, fine=ONE)


class TestChooserOf(PromiseCase):

    def checked(self, reader):
        table = self.ask(chooser_of, reader, exact=False)
        self.assertEqual(kinds(table)[0], "list")
        self.assertTrue(play_oracles.is_table(reader, table))
        self.assertTrue(play_oracles.is_right(reader, table))
        self.gives(True, is_table, reader, table)
        self.gives(True, is_chooser, reader, table)
        self.gives(None, wrong_row, reader, table)
        return table

    def test_who_has_one(self):
        source = random.Random(7)
        found = {True: 0, False: 0}
        for reader in small_readers(80, 22) + doubtful_readers(120, 22):
            if play_oracles.letter_board(reader)[0] is None:
                continue
            told = has_chooser(reader)
            found[told] += 1
            if not told:
                self.gives(None, chooser_of, reader)
                continue
            table = self.checked(reader)
            for row in some_rows(reader.letters, 5, source.randrange(100)):
                self.assertIs(keeps(reader, table, row) or not lets_by(reader, row), True)
            self.checked(renamed(reader, [0] + list(range(reader.rooms - 1, 0, -1))))
        self.assertGreater(min(found.values()), 50)

    def test_keeps_on_all_short_rows(self):
        for reader in (last_reader(), slip_reader(2), clean_reader(2), round_reader(5, [3]), step_reader(2)):
            table = self.checked(reader)
            for row in rows_to(reader.letters, 6 if reader.letters == 2 else 8):
                self.gives(lets_by(reader, row) or keeps(reader, table, row), keeps, reader, table, row)

    def test_60_memories(self):
        self.assertLessEqual(len(self.checked(reader_at(STANDINGS_60_WON))), 60)
        self.too_many("memories", 60, chooser_of, reader_at(STANDINGS_61_WON))
        self.assertIsNotNone(chooser_paper(reader_at(STANDINGS_61_WON)))
        self.gives(None, chooser_of, reader_at(STANDINGS_61_LOST))

    def test_too_many(self):
        for reader in (full_reader(), Reader(3, 7, WAYS_401)):
            self.too_many("standings", 400, chooser_of, reader)
        for limit in (LETTER_601_WON, LETTER_601_LOST):
            self.too_many("places", 600, chooser_of, reader_at(limit))

    def test_wrong(self):
        self.refuses_junk(InvalidReader, chooser_of, None, at=0, fine=ONE)


class TestWrongRow(PromiseCase):

    def checked(self, reader, table):
        """Whether the table is right; if not, a wrong row is told just where few letters do."""
        if play_oracles.is_right(reader, table):
            self.gives(None, wrong_row, reader, table)
            return "right"
        if not play_oracles.is_soon_wrong(reader, table):
            self.too_many("letters", 40, wrong_row, reader, table)
            return "far"
        row = self.ask(wrong_row, reader, table, exact=False)
        self.assertTrue(oracles.is_let(reader, row) and not play_oracles.keeps(reader, table, row))
        self.assertEqual([type(part) for part in row], [tuple, tuple])
        self.assertLessEqual(max(map(len, row)), 40)
        self.gives(True, is_wrong_row, reader, table, row)
        return "wrong"

    def test_last(self):
        self.gives(None, wrong_row, last_reader(), GOOD)
        self.assertEqual(self.checked(last_reader(), STAY), "wrong")

    def test_by_rings(self):
        source = random.Random(8)
        found = {"right": 0, "wrong": 0, "far": 0}
        for reader in small_readers(100, 23) + doubtful_readers(60, 23):
            for memories in (1, 2, 4):
                found[self.checked(reader, some_table(source, reader, memories))] += 1
        self.assertGreater(min(found["right"], found["wrong"]), 100)

    def test_just_40_letters(self):
        # From memory to memory, round or to the end; at one of them the slip is taken.
        reader = Reader(1, 1, [(0, 0, 0, 0), (0, 0, 0, 1)])
        for many, told in ((1, "wrong"), (40, "wrong"), (41, "far"), (60, "far")):
            table = [[[(int(memory == 0), (memory + 1) % many)]] for memory in range(many)]
            self.assertEqual(self.checked(reader, table), told)
            self.gives(True, is_wrong_row, reader, table, ((), (0,)))
        for many, told in ((2, "wrong"), (41, "wrong"), (42, "far"), (60, "far")):
            table = [[[(int(memory == many - 1), min(memory + 1, many - 1))]] for memory in range(many)]
            self.assertEqual(self.checked(reader, table), told)
        # A ring of 40 behind 40 steps, and what is one longer.
        for ahead, round_it, told in ((20, 40, "wrong"), (19, 41, "far"), (30, 30, "wrong")):
            many = ahead + round_it
            table = [[[(int(memory == many - 1), memory + 1 if memory + 1 < many else ahead)]] for memory in range(many)]
            self.assertEqual(self.checked(reader, table), told)

    def test_a_near_ring_that_is_long_and_a_far_one_that_is_short(self):
        # By 0s round 41 memories with a slip, by a 1 at the last one to a slip again and again.
        reader = Reader(2, 1, [(0, letter, 0, slip) for letter in (0, 1) for slip in (0, 1)])
        for many, told in ((39, "wrong"), (40, "wrong"), (41, "far"), (45, "far")):
            table = [[[(int(memory == 0), (memory + 1) % many), (2, memory + 1 if memory + 1 < many else many)]]
                     for memory in range(many)]
            table.append([[(1, many), (3, many)]])
            self.assertEqual(self.checked(reader, table), told)

    def test_a_ring_may_come_to_a_place_twice(self):
        reader = Reader(2, 1, [(0, letter, 0, slip) for letter in (0, 1) for slip in (0, 1)])
        table = [[[(0, 1), (2, 0)]], [[(0, 0), (2, 2)]], [[(1, 1), (2, 1)]]]
        self.assertEqual(self.checked(reader, table), "wrong")

    def test_wrong(self):
        self.refuses_junk(InvalidReader, wrong_row, None, None, at=0, fine=ONE)
        self.refuses_junk(InvalidTable, wrong_row, last_reader(), None, at=1)
        for table in wrong_tables():
            self.refuses(InvalidTable, table, wrong_row, last_reader(), table)
            self.refuses(InvalidTable, table, is_wrong_row, last_reader(), table, None)
        self.refuses_junk(InvalidReader, is_wrong_row, None, None, None, at=0, fine=ONE)
        self.refuses_junk(InvalidTable, is_wrong_row, last_reader(), None, None, at=1)


class TestIsWrongRow(PromiseCase):

    def test_by_definition(self):
        source = random.Random(9)
        found = {True: 0, False: 0}
        for reader in some_readers(80) + doubtful_readers(60, 24):
            table = some_table(source, reader, 2)
            for row in some_rows(reader.letters, 5, reader.many):
                fits = oracles.is_let(reader, row) and not play_oracles.keeps(reader, table, row)
                self.gives(fits, is_wrong_row, reader, table, row)
                found[fits] += 1
        self.assertGreater(min(found.values()), 100)

    def test_any_value(self):
        for value in junk() + [((), (2,)), ((0,), (1,) * 41), ((0,) * 41, (1,)), [(0,), (1,)], ((0,), [1]), ((0,), (True,))]:
            self.assertIs(is_wrong_row(last_reader(), STAY, value), False, value)
        self.gives(True, is_wrong_row, last_reader(), STAY, ((0,) * 40, (1,) * 40))
        self.gives(True, is_wrong_row, last_reader(), STAY, ((0,), (1, 1)))

    def test_without_too_many(self):
        reader = Reader(3, 7, WAYS_401)
        table = only_table(reader, 60)
        for row in some_rows(3, 10):
            fits = oracles.is_let(reader, row) and not play_oracles.keeps(reader, table, row)
            self.gives(fits, is_wrong_row, reader, table, row)
