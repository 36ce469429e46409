"""Foes, spoilt runs and rows, and rows that beat choosers."""

import random

from tests import oracles, play_oracles
from tests.limits import (LETTER_600_LOST, LETTER_600_WON, LETTER_601_LOST, LETTER_601_WON, STANDINGS_61_LOST, reader_at)
from tests.play_oracles import GUESS, LONE, ONCE, PARTS, doubtful_readers, small_readers, some_table
from tests.test_choosers import GOOD, STAY, only_table, wrong_tables
from tests.tools import (WAYS_400, WAYS_401, PromiseCase, clean_reader, full_reader, junk, last_reader, round_reader,
                         slip_reader, some_readers, some_rows, step_reader)
from tworivals.choosers import chooser_of, is_chooser, keeps
from tworivals.errors import InvalidFoe, InvalidReader, InvalidRow, InvalidTable
from tworivals.foes import beats, foe_of, is_foe, spoilt_row, spoilt_run
from tworivals.plays import foe_paper, has_chooser
from tworivals.readers import Reader, renamed
from tworivals.rows import normal_row
from tworivals.runs import is_run, lets_by, slips_of

FIRST = ((0,), (0,))
BOTH, LEFT, RIGHT = ((1, 2), (1, 2)), ((1, 2), (1,)), ((1, 2), (2,))
ONE = [Reader(1, 1, [(0, 0, 0, 0)])]
FOE = [((0, FIRST), 0), ((1, BOTH), 1), ((1, RIGHT), 1), ((2, LEFT), 0), ((2, BOTH), 0)]
TABLE = [[[(0, 0), (3, 0)], [(4, 0), (5, 0)], [(6, 0), (7, 0)]]]


def parts_reader():
    return Reader(*PARTS)


class TestIsFoe(PromiseCase):

    def test_parts(self):
        self.gives(True, is_foe, parts_reader(), FOE)
        self.gives(True, is_foe, parts_reader(), tuple(FOE))
        self.gives(False, is_foe, parts_reader(), FOE[:4])
        self.gives(False, is_foe, parts_reader(), FOE[1:])
        self.gives(False, is_foe, parts_reader(), FOE[::-1])
        self.gives(False, is_foe, parts_reader(), [FOE[1], FOE[0]] + FOE[2:])
        self.gives(False, is_foe, parts_reader(), FOE + FOE[-1:])
        self.gives(False, is_foe, parts_reader(), [])

    def test_positions_that_need_not_be_there(self):
        reader = parts_reader()
        for more, letters in (((0, LEFT), [1]), ((0, RIGHT), [0]), ((1, LEFT), [1]), ((2, RIGHT), [0]), ((0, BOTH), []),
                              ((2, FIRST), [0, 1]), ((1, ((2,), (2,))), [1]), ((0, ((0, 1, 2), (0,))), [0, 1])):
            for letter in (0, 1):
                value = sorted(FOE + [(more, letter)])
                self.assertIs(play_oracles.is_foe(reader, value), letter in letters)
                self.gives(letter in letters, is_foe, reader, value)

    def test_a_letter_otherwise(self):
        found = {True: 0, False: 0}
        for at, (position, letter) in enumerate(FOE):
            for other in (1 - letter, 2, -1, True, False, None, "0", [0], 10 ** 29):
                value = FOE[:at] + [(position, other)] + FOE[at + 1:]
                fits = play_oracles.is_foe(parts_reader(), value)
                self.gives(fits, is_foe, parts_reader(), value)
                found[fits] += 1
        self.assertGreater(found[False], 30)

    def test_rings(self):
        # One letter, one room: a slip alone breaks, a clean way is no slip; both together are a choice.
        self.gives(False, is_foe, slip_reader(), [((0, FIRST), 0)])
        self.gives(False, is_foe, clean_reader(), [((0, FIRST), 0)])
        self.gives(False, is_foe, Reader(1, 1, [(0, 0, 0, 0), (0, 0, 0, 1)]), [((0, FIRST), 0)])
        # Standings that never come: room 1 alone would be clean, and the reader is not there.
        reader = Reader(1, 2, [(0, 0, 0, 1), (1, 0, 1, 0)])
        both = ((0, 1), (1,))
        self.gives(False, is_foe, reader, [((0, both), 0)])
        self.gives(False, is_foe, reader, [((0, FIRST), 0), ((0, both), 0)])
        # Behind the first position one slips for ever, while another room goes on cleanly.
        reader = Reader(1, 3, [(0, 0, 1, 0), (0, 0, 2, 0), (1, 0, 1, 1), (2, 0, 2, 0)])
        self.gives(False, is_foe, reader, [((0, FIRST), 0), ((1, ((1, 2), (1, 2))), 0), ((1, RIGHT), 0),
                                           ((2, RIGHT), 0), ((2, ((1, 2), (1, 2))), 0)])

    def changed(self, source, reader, foe):
        """Values with one thing otherwise, some of them foes all the same."""
        yield from [tuple(foe), foe[1:], foe[:-1], foe[::-1], foe + foe[-1:], [list(item) for item in foe], dict(foe),
                    None, [], (), (foe,), [item[0] for item in foe], [(*item, 0) for item in foe], set(foe)]
        for at, (position, letter) in enumerate(foe):
            room, (lot, clean) = position
            rest = foe[:at], foe[at + 1:]
            yield rest[0] + rest[1]
            yield rest[0] + [(position, letter)] * 2 + rest[1]
            for other in [*range(reader.letters + 1), -1, True, None]:
                yield rest[0] + [(position, other)] + rest[1]
                yield rest[0] + [(position, letter), (position, other)] + rest[1]
            for told in ((room,), [room, (lot, clean)], (bool(room), (lot, clean)), (-1, (lot, clean)), None,
                         (reader.rooms, (lot, clean)), (room, [lot, clean]), (room, (lot, ())), (room, (lot, lot)),
                         (room, (lot, clean, clean)), (room, lot, clean), (room, (lot, (reader.rooms,)))):
                yield rest[0] + [(told, letter)] + rest[1]
        for _ in range(6):
            lot = tuple(sorted(source.sample(range(reader.rooms), source.randint(1, reader.rooms))))
            more = (source.randrange(reader.rooms), (lot, lot[:source.randint(1, len(lot))]))
            yield sorted([item for item in foe if item[0] != more] + [(more, source.randrange(reader.letters))])

    def test_by_definition(self):
        source = random.Random(1)
        found = {True: 0, False: 0}
        for reader in doubtful_readers(60, 41) + small_readers(20, 41):
            board, names = play_oracles.letter_board(reader)
            if board is None or len(names) > 80:
                continue
            told = foe_of(reader)
            positions = sorted({name[1:3] for name in names})
            foes = [] if told is None else [told]
            foes += [[(position, source.randrange(reader.letters)) for position in positions] for _ in range(3)]
            for foe in foes:
                for value in [foe] + list(self.changed(source, reader, foe)):
                    fits = play_oracles.is_foe(reader, value)
                    self.assertIs(is_foe(reader, value), fits, (reader.ways(), value))
                    found[fits] += 1
        self.assertGreater(found[True], 300)
        self.assertGreater(found[False], 3000)

    def test_who_has_a_foe_has_no_chooser(self):
        source = random.Random(2)
        for reader in small_readers(100, 42):
            if play_oracles.letter_board(reader)[0] is None or not has_chooser(reader):
                continue
            positions = sorted({name[1:3] for name in play_oracles.letter_board(reader)[1]})
            for _ in range(10):
                self.assertIs(is_foe(reader, [(position, source.randrange(reader.letters)) for position in positions]),
                              False)

    def test_any_value(self):
        for reader in (parts_reader(), clean_reader()):
            for value in junk():
                for told in (value, [value], [(value, 0)], [((0, FIRST), value)], [((value, FIRST), 0)], [((0, value), 0)],
                             [((0, ((0,), value)), 0)], [((0, (value, (0,))), 0)], FOE + [value], [value] + FOE):
                    self.assertIs(is_foe(reader, told), False, told)

    def test_without_too_many(self):
        for reader in (full_reader(), Reader(3, 7, WAYS_401), Reader(2, 8, WAYS_400)):
            for value in (None, [], [((0, FIRST), 0)]):
                self.gives(False, is_foe, reader, value)

    def test_wrong(self):
        self.refuses_junk(InvalidReader, is_foe, None, None, at=0, fine=ONE)


class TestFoeOf(PromiseCase):

    def checked(self, reader):
        foe = self.ask(foe_of, reader, exact=False)
        self.assertIs(type(foe), list)
        self.assertTrue(play_oracles.is_foe(reader, foe))
        self.gives(True, is_foe, reader, foe)
        return foe

    def test_who_has_none(self):
        found = {True: 0, False: 0}
        for reader in small_readers(60, 43) + doubtful_readers(120, 43):
            if play_oracles.letter_board(reader)[0] is None:
                continue
            told = has_chooser(reader)
            found[told] += 1
            self.assertEqual(told, chooser_of(reader) is not None)
            self.assertEqual(told, foe_paper(reader) is None)
            if told:
                self.gives(None, foe_of, reader)
            else:
                self.checked(reader)
                self.checked(renamed(reader, [0] + list(range(reader.rooms - 1, 0, -1))))
        self.assertGreater(min(found.values()), 50)

    def test_examples(self):
        for told in (GUESS, ONCE, PARTS, LONE):
            self.checked(Reader(*told))
        for reader in (clean_reader(), slip_reader(4), last_reader(), round_reader(12, [3]), step_reader(0)):
            self.gives(None, foe_of, reader)

    def test_at_the_limits(self):
        self.gives(None, foe_of, reader_at(LETTER_600_WON))
        for limit in (LETTER_600_LOST, STANDINGS_61_LOST):
            self.checked(reader_at(limit))
        for limit in (LETTER_601_WON, LETTER_601_LOST):
            self.too_many("places", 600, foe_of, reader_at(limit))
        for reader in (full_reader(), Reader(3, 7, WAYS_401)):
            self.too_many("standings", 400, foe_of, reader)

    def test_wrong(self):
        self.refuses_junk(InvalidReader, foe_of, None, at=0, fine=ONE)


class TestSpoilt(PromiseCase):

    def checked(self, reader, foe, table):
        run = play_oracles.spoilt(reader, foe, table)
        self.gives(run, spoilt_run, reader, foe, table)
        head, loop = [[reader.way(way)[1] for way in ways] for ways in run]
        begin, again = self.shortest(head, loop)
        if max(len(begin), len(again)) > 40:
            self.too_many("letters", 40, spoilt_row, reader, foe, table)
            return "long"
        self.gives((begin, again), spoilt_row, reader, foe, table)
        self.assertTrue(oracles.is_let(reader, (begin, again)))
        self.assertFalse(play_oracles.keeps(reader, table, (begin, again)))
        self.gives(True, beats, reader, (begin, again), table)
        return "told"

    def shortest(self, head, loop):
        """The normal row of these letters."""
        sizes = [size for size in range(1, len(loop) + 1) if loop == (loop[:size] * len(loop))[:len(loop)]
                 and len(loop) % size == 0]
        loop = loop[:sizes[0]]
        while head and head[-1] == loop[-1]:
            loop = loop[-1:] + loop[:-1]
            head = head[:-1]
        return tuple(head), tuple(loop)

    def test_parts(self):
        self.gives(([0, 5], [5]), spoilt_run, parts_reader(), FOE, TABLE)
        self.gives(((0,), (1,)), spoilt_row, parts_reader(), FOE, TABLE)
        self.gives(([0, 5], [5]), spoilt_run, parts_reader(), tuple(FOE), tuple(TABLE))

    def test_all_tables(self):
        source = random.Random(3)
        rows = 0
        for reader in doubtful_readers(100, 44):
            if play_oracles.letter_board(reader)[0] is None or has_chooser(reader):
                continue
            foe = foe_of(reader)
            for memories in (1, 2, 3, 7, 60):
                table = some_table(source, reader, memories)
                self.assertIs(is_chooser(reader, table), False)
                rows += self.checked(reader, foe, table) == "told"
                run = spoilt_run(reader, foe, table)
                if len(run[0]) <= 40 and len(run[1]) <= 40:
                    row = tuple([tuple([reader.way(way)[1] for way in ways]) for ways in run])
                    self.assertIs(is_run(reader, row, run), True)
                    self.assertGreater(slips_of(reader, run)[1], 0)
                    self.assertEqual(normal_row(row), spoilt_row(reader, foe, table))
        self.assertGreater(rows, 100)

    def test_at_the_limits(self):
        source = random.Random(4)
        for limit in (LETTER_600_LOST, STANDINGS_61_LOST):
            reader = reader_at(limit)
            foe = foe_of(reader)
            for memories in (1, 20, 60):
                self.checked(reader, foe, some_table(source, reader, memories))

    def guesses(self):
        """A reader that must guess the next letter each time, and a foe that names the wrong one."""
        reader = Reader(2, 3, [(room, letter, to, int(room != 0 and letter != room - 1)) for room in range(3)
                               for letter in (0, 1) for to in (1, 2)])
        return reader, foe_of(reader)

    def counting_table(self, reader, head, loop):
        """It goes from memory to memory, and takes at the last one of the head and of the loop the other room."""
        many = head + loop
        table = []
        for memory in range(many):
            to = 2 if memory in (head - 1, many - 1) else 1
            following = memory + 1 if memory + 1 < many else head
            table.append([[([way for way in reader.ways_by(room, letter) if reader.way(way)[2] == to][0], following)
                           for letter in range(2)] for room in range(reader.rooms)])
        return table

    def test_lengths(self):
        reader, foe = self.guesses()
        self.assertIsNotNone(foe)
        lengths = set()
        for head in range(0, 45):
            for loop in (1, 3, 15):
                row = self.shortest(*[[reader.way(way)[1] for way in ways] for ways in
                                      play_oracles.spoilt(reader, foe, self.counting_table(reader, head, loop))])
                lengths.add(("begin", len(row[0])))
                self.checked(reader, foe, self.counting_table(reader, head, loop))
        for loop in range(1, 60):
            row = self.shortest(*[[reader.way(way)[1] for way in ways] for ways in
                                  play_oracles.spoilt(reader, foe, self.counting_table(reader, 0, loop))])
            lengths.add(("again", len(row[1])))
            self.checked(reader, foe, self.counting_table(reader, 0, loop))
        for length in (40, 41):
            self.assertIn(("begin", length), lengths)
            self.assertIn(("again", length), lengths)

    def test_wrong(self):
        parts = parts_reader()
        for function in (spoilt_run, spoilt_row):
            self.refuses_junk(InvalidReader, function, None, None, None, at=0, fine=ONE)
            self.refuses_junk(InvalidFoe, function, parts, None, None, at=1)
            for foe in (FOE[:4], FOE[1:], FOE[::-1], FOE + FOE[-1:], [list(item) for item in FOE], dict(FOE), [],
                        [(position, 1 - letter) for position, letter in FOE]):
                self.refuses(InvalidFoe, foe, function, parts, foe, None)
            self.refuses_junk(InvalidTable, function, parts, FOE, None, at=2)
            for table in (TABLE[0], [TABLE[0][:2]], [TABLE[0]] * 61, [[[(0, 1), (3, 0)]] + TABLE[0][1:]], [], GOOD):
                self.refuses(InvalidTable, table, function, parts, FOE, table)


class TestBeats(PromiseCase):

    def test_examples(self):
        self.gives(True, beats, parts_reader(), ((0,), (1,)), TABLE)
        self.gives(False, beats, parts_reader(), ((0,), (0,)), TABLE)
        self.gives(True, beats, last_reader(), ((0,), (1,)), STAY)
        self.gives(False, beats, last_reader(), ((0,), (1,)), GOOD)
        self.gives(False, beats, last_reader(), ((), (0, 1)), STAY)

    def test_by_definition(self):
        source = random.Random(5)
        found = {True: 0, False: 0}
        for reader in some_readers(60) + doubtful_readers(60, 45):
            for memories in (1, 3):
                table = some_table(source, reader, memories)
                for row in some_rows(reader.letters, 4, reader.many):
                    told = oracles.is_let(reader, row) and not play_oracles.keeps(reader, table, row)
                    self.gives(told, beats, reader, row, table)
                    self.assertEqual(told, lets_by(reader, row) and not keeps(reader, table, row))
                    found[told] += 1
        self.assertGreater(min(found.values()), 100)

    def test_a_right_chooser_is_beaten_by_no_row(self):
        for reader in small_readers(40, 46) + [last_reader()]:
            if play_oracles.letter_board(reader)[0] is not None and has_chooser(reader):
                table = chooser_of(reader)
                for row in some_rows(reader.letters, 8, reader.many):
                    self.gives(False, beats, reader, row, table)

    def test_wrong(self):
        last = last_reader()
        self.refuses_junk(InvalidReader, beats, None, None, None, at=0, fine=ONE)
        self.refuses_junk(InvalidRow, beats, last, None, None, at=1)
        for row in (((), (2,)), ((2,), (0,)), ((), (0,) * 41), [(), (0,)], ((), [0])):
            self.refuses(InvalidRow, row, beats, last, row, None)
        self.refuses_junk(InvalidTable, beats, last, ((), (0,)), None, at=2)
        for table in wrong_tables():
            self.refuses(InvalidTable, table, beats, last, ((), (0,)), table)
        self.gives(False, beats, last, ((), (0,)), only_table(last, 60))
