"""Told runs along rows, their slips, what rows are let by, and the rooms behind words."""

import random

from tests import oracles
from tests.tools import (PromiseCase, clean_reader, far_reader, full_reader, junk, last_reader, letters_of, slip_reader,
                         some_readers, some_rows, step_reader, told_otherwise)
from tworivals.errors import InvalidReader, InvalidRow, InvalidRun, InvalidWord
from tworivals.readers import Reader
from tworivals.runs import clean_run, is_run, lets_by, rooms_behind, slips_of

ONE = [Reader(1, 1, [(0, 0, 0, 0)])]


def walked_run(source, reader, row):
    """Some told run along the row: whatever ways are taken until a room comes again where a round begins."""
    begin, again = row
    room, numbers, seen = 0, [], {}
    while True:
        rounds, left = divmod(len(numbers) - len(begin), len(again))
        if rounds >= 0 and left == 0:
            if room in seen:
                at = len(begin) + seen[room] * len(again)
                return numbers[:at], numbers[at:]
            seen[room] = rounds
        letter = letters_of(row, len(numbers) + 1)[-1]
        numbers.append(source.choice(reader.ways_by(room, letter)))
        room = reader.way(numbers[-1])[2]


def changed_runs(source, reader, run):
    """Runs with one thing otherwise, some of them told runs all the same."""
    head, loop = run
    yield from [(head, loop, loop), (head,), [head, loop], (loop, head), (head, []), ([], loop), (head + loop, loop),
                (head, loop + loop), (head, loop + loop[:1]), (head + loop[:1], loop[1:] + loop[:1]), (tuple(head), loop),
                (head, tuple(loop)), (tuple(head), tuple(loop)), (None, loop), (head, None), (head, {0: 0}),
                ("", loop), (head, "0"), (range(0), loop), (head, range(1))]
    for part in (0, 1):
        for at in range(len(run[part])):
            for number in (source.randrange(reader.many), reader.many, -1, True, False, None, "0", [0], (0,), 10 ** 29):
                changed = [list(head), list(loop)]
                changed[part][at] = number
                yield tuple(changed)
            left_out, put_in = [list(head), list(loop)], [list(head), list(loop)]
            del left_out[part][at]
            put_in[part].insert(at, source.randrange(reader.many))
            yield tuple(left_out)
            yield tuple(put_in)


class TestIsRun(PromiseCase):

    def test_examples_by_hand(self):
        last = last_reader()
        for row, run, fits in [
                (((0,), (1,)), ([1], [7]), True), (((0,), (1,)), ([1, 7], [7]), True),
                (((0,), (1,)), ([1], [7, 7]), True), (((0,), (1,)), ([], [7]), False),
                (((0,), (1,)), ([1], []), False), (((0,), (1,)), ([1], [6]), False),
                (((0,), (1,)), ([7], [7]), False), (((0,), (1,)), ([1], [2]), False),
                (((), (0, 1)), ([], [0, 2]), True), (((), (0, 1)), ([0], [2, 0]), False),
                (((), (0, 1)), ([0, 3], [4, 7]), False), (((), (0, 1)), ([0, 3], [5, 7]), True),
                (((), (0, 1)), ([], [0, 2, 0]), False), (((), (0, 1)), ([], [0, 3]), False),
                (((), (0, 1)), ([0, 3], [4, 2]), False), (((), (1,)), ([], [7]), False)]:
            self.gives(fits, is_run, last, row, run)

    def test_one_with_a_told_way_to_home(self):
        # By 5 from room 1 to room 1, by 4 from room 1 to room 0.
        last = last_reader()
        self.gives(True, is_run, last, ((), (0, 1)), ([0, 3], [4, 3]))
        self.gives(False, is_run, last, ((), (0, 1)), ([0, 3], [4, 2]))
        self.gives(True, is_run, last, ((), (0, 1)), ([], [1, 6]))
        self.gives(False, is_run, last, ((), (0, 1)), ([0, 2], [4, 3]))

    def test_lengths(self):
        reader = Reader(1, 1, [(0, 0, 0, 1)])
        row = ((), (0,))
        for head, loop, fits in ((0, 1, True), (520, 1, True), (521, 1, False), (0, 0, False), (520, 0, False),
                                 (0, 480, True), (0, 481, False), (520, 480, True), (521, 481, False)):
            self.gives(fits, is_run, reader, row, ([0] * head, [0] * loop))
        row = ((0,) * 40, (0,) * 40)
        for head, loop, fits in ((40, 40, True), (39, 40, False), (0, 40, False), (41, 40, False), (80, 40, True),
                                 (520, 480, True), (480, 440, True), (40, 39, False), (40, 41, False), (40, 80, True),
                                 (560, 40, False), (40, 520, False), (40, 20, False), (60, 40, False)):
            self.gives(fits, is_run, reader, row, ([0] * head, [0] * loop))
        row = ((0,) * 3, (0,) * 5)
        for head in range(20):
            for loop in range(20):
                fits = head in (3, 8, 13, 18) and loop in (5, 10, 15)
                self.gives(fits, is_run, reader, row, ([0] * head, [0] * loop))

    def test_the_row_as_it_is_told(self):
        last = last_reader()
        self.gives(True, is_run, last, ((), (0,)), ([], [0]))
        self.gives(False, is_run, last, ((), (0, 0)), ([], [0]))
        self.gives(False, is_run, last, ((0,), (0,)), ([], [0]))
        self.gives(True, is_run, last, ((0,), (0, 0)), ([0], [0, 0]))

    def test_by_definition(self):
        source = random.Random(3)
        yes = no = 0
        for reader in some_readers(25):
            for row in some_rows(reader.letters, 3, reader.many):
                run = walked_run(source, reader, row)
                self.gives(True, is_run, reader, row, run)
                for value in changed_runs(source, reader, run):
                    fits = oracles.is_run_along(reader, row, value)
                    self.assertIs(is_run(reader, row, value), fits, (reader.ways(), row, value))
                    yes, no = yes + fits, no + (not fits)
        self.assertGreater(yes, 300)
        self.assertGreater(no, 3000)

    def test_any_value(self):
        for value in junk() + [([0], [[]]), ([{}], [0]), ([], [None]), ([], [True]), ([], [False])]:
            told = is_run(clean_reader(), ((), (0,)), value)
            self.assertIs(told, oracles.is_run_along(clean_reader(), ((), (0,)), value))

    def test_wrong_parameters(self):
        self.refuses_junk(InvalidReader, is_run, None, None, None, at=0, fine=ONE)
        self.refuses_junk(InvalidRow, is_run, last_reader(), None, None, at=1)
        row = ((), (2,))
        self.refuses(InvalidRow, row, is_run, last_reader(), row, ([], [0]))
        self.gives(False, is_run, clean_reader(3), row, ([], [0]))
        self.gives(True, is_run, clean_reader(3), row, ([], [2]))


class TestSlips(PromiseCase):

    def test_slips(self):
        last = last_reader()
        self.gives((1, 2), slips_of, last, ([0, 3], [7, 6, 1]))
        self.gives((0, 0), slips_of, last, ([0, 0], [0]))
        self.gives((0, 1), slips_of, last, ((), (2,)))
        self.gives((520, 0), slips_of, Reader(1, 1, [(0, 0, 0, 0), (0, 0, 0, 1)]), ([1] * 520, [0]))
        self.gives((0, 480), slips_of, Reader(1, 1, [(0, 0, 0, 0), (0, 0, 0, 1)]), ([], [1] * 480))

    def test_by_counting(self):
        source = random.Random(4)
        for reader in some_readers(40):
            for row in some_rows(reader.letters, 3, reader.many):
                head, loop = walked_run(source, reader, row)
                slips = [way[3] for way in reader.ways()]
                self.gives((sum(slips[number] for number in head), sum(slips[number] for number in loop)),
                           slips_of, reader, (head, loop))

    def test_wrong_runs(self):
        source = random.Random(5)
        for reader in some_readers(12):
            run = walked_run(source, reader, some_rows(reader.letters, 1, reader.many)[0])
            for value in changed_runs(source, reader, run):
                if not oracles.is_told_run(reader, value):
                    self.refuses(InvalidRun, value, slips_of, reader, value)
                else:
                    self.assertEqual(len(slips_of(reader, value)), 2)
        for run in (([0] * 521, [0]), ([], [0] * 481), ([], []), ([0], [])):
            self.refuses(InvalidRun, run, slips_of, clean_reader(), run)
        self.refuses(InvalidRun, ([], [1]), slips_of, step_reader(0), ([], [1]))

    def test_begins_in_room_0_and_goes_round(self):
        for run in (([], [7]), ([7], [7]), ([0], [7]), ([0], [1]), ([1], [0]), ([0, 7], [0]), ([3], [6])):
            self.refuses(InvalidRun, run, slips_of, last_reader(), run)

    def test_wrong(self):
        self.refuses_junk(InvalidReader, slips_of, None, None, at=0, fine=ONE)
        there_and_back = Reader(1, 2, [(0, 0, 1, 0), (1, 0, 0, 0)])
        self.gives((0, 0), slips_of, there_and_back, ([], [0, 1]))
        self.refuses_junk(InvalidRun, slips_of, there_and_back, None, at=1)


class TestLetsBy(PromiseCase):

    def cleanly(self, reader, row):
        """The told run, which is clean, of a row that is let by; None of another one."""
        run = self.ask(clean_run, reader, row, exact=False)
        if not oracles.is_let(reader, row):
            self.gives(False, lets_by, reader, row)
            self.assertIsNone(run)
            return None
        self.gives(True, lets_by, reader, row)
        self.assertTrue(oracles.is_run_along(reader, row, run), (reader.ways(), row, run))
        self.exactly(kinds_of_run(run), ("tuple", "list", "list"))
        self.assertIs(is_run(reader, row, run), True)
        self.assertEqual(slips_of(reader, run)[1], 0)
        self.assertFalse(any(reader.ways()[number][3] for number in run[1]))
        return run

    def test_last(self):
        for row, fits in ((((0, 1, 1), (0,)), True), (((), (1,)), True), (((), (0, 1)), False),
                          (((0, 0), (1, 1, 1, 0)), False), (((0,) * 40, (1,) * 40), True),
                          (((0,) * 40, (0,) * 39 + (1,)), False)):
            self.gives(fits, lets_by, last_reader(), row)
            self.assertEqual(self.cleanly(last_reader(), row) is not None, fits)

    def test_some_room_that_is_never_come_to(self):
        # Room 1 is clean for ever, but no way leads there.
        reader = Reader(1, 2, [(0, 0, 0, 1), (1, 0, 1, 0), (1, 0, 0, 0)])
        self.gives(False, lets_by, reader, ((), (0,)))
        self.gives(None, clean_run, reader, ((), (0,)))

    def test_clean_ways_that_end(self):
        reader = Reader(1, 3, [(0, 0, 1, 0), (1, 0, 2, 0), (2, 0, 0, 1)])
        self.gives(False, lets_by, reader, ((), (0,)))
        self.gives(None, clean_run, reader, ((), (0,)))

    def test_several_rounds(self):
        # The loop goes round again as often as there are rooms, the head as often but once.
        reader, row = step_reader(0), ((), (0,) * 39 + (1,))
        self.assertEqual([len(part) for part in self.cleanly(reader, row)], [0, 480])
        late = Reader(2, 12, [(room, 1, min(room + 1, 11), 0 if room == 11 else 1) for room in range(12)]
                      + [(room, 0, room, 0) for room in range(12)])
        for row in (((1,) + (0,) * 39, (0,) * 39 + (1,)), ((0,) * 40, (0,) * 39 + (1,)), ((), (1,))):
            run = self.cleanly(late, row)
            self.assertGreaterEqual(len(run[0]), len(row[0]) + 10 * len(row[1]))
        three = Reader(2, 3, [(0, 0, 1, 0), (1, 0, 2, 0), (2, 0, 0, 0), (0, 1, 0, 1), (1, 1, 1, 1), (2, 1, 2, 1)])
        for again in (1, 2, 4, 5, 7):
            run = self.cleanly(three, ((1,), (0,) * again))
            self.assertEqual(len(run[1]) % (3 * again), 0)

    def test_slips_needed_ahead(self):
        # The only clean ring is behind a slip, and the first clean ways lead elsewhere.
        reader = Reader(2, 4, [(0, 0, 1, 0), (0, 0, 3, 1), (1, 0, 2, 0), (2, 0, 2, 1), (3, 0, 3, 0), (0, 1, 0, 0),
                               (1, 1, 0, 0), (2, 1, 0, 1), (3, 1, 3, 1)])
        for row in (((), (0,)), ((1,), (0,)), ((), (0, 1)), ((), (0, 0, 1)), ((0, 1), (0, 0)), ((), (1, 0, 0, 0))):
            self.cleanly(reader, row)

    def test_by_rounds(self):
        found = {True: 0, False: 0}
        for reader in some_readers(120):
            for row in some_rows(reader.letters, 8, reader.many):
                found[self.cleanly(reader, row) is not None] += 1
        self.assertGreater(min(found.values()), 150)

    def test_great_readers(self):
        readers = [full_reader(), far_reader(), step_reader(0), step_reader(6), step_reader(12)]
        for reader in readers:
            for row in some_rows(reader.letters, 8, 5):
                self.cleanly(reader, row)
            begin, again = some_rows(reader.letters, 1, 6)[0]
            self.cleanly(reader, ((begin * 40)[:40], (again * 40)[:39] + (1,)))

    def test_the_same_row_told_otherwise(self):
        for reader in some_readers(30):
            for row in some_rows(reader.letters, 4, reader.many):
                for other in told_otherwise(row):
                    self.gives(lets_by(reader, row), lets_by, reader, other)
                    self.cleanly(reader, other)

    def test_wrong(self):
        for function in (lets_by, clean_run):
            self.refuses_junk(InvalidReader, function, None, None, at=0, fine=ONE)
            self.refuses_junk(InvalidRow, function, last_reader(), None, at=1)
            for row in (((), (2,)), ((2,), (0,)), ((), (0,) * 41), ((0,) * 41, (0,)), [(), (0,)], ((), [0])):
                self.refuses(InvalidRow, row, function, last_reader(), row)
            self.ask(function, clean_reader(3), ((2,), (0,)))


def kinds_of_run(run):
    return type(run).__name__, type(run[0]).__name__, type(run[1]).__name__


class TestRoomsBehind(PromiseCase):

    def test_rooms_behind(self):
        self.gives([0], rooms_behind, last_reader(), [])
        self.gives([0], rooms_behind, last_reader(), ())
        self.gives([0, 1], rooms_behind, last_reader(), [0])
        for many in range(0, 41):
            self.gives([many % 12], rooms_behind, step_reader(5), [1] * many)
        self.gives([3], rooms_behind, step_reader(5), [1, 0] * 3)

    def test_by_sets(self):
        for reader in some_readers(60) + [full_reader()] + [far_reader()] * 5:
            for word, more in some_rows(reader.letters, 6, reader.many):
                self.gives(sorted(oracles.behind(reader, {0}, word + more)), rooms_behind, reader, word + more)

    def test_wrong(self):
        self.gives([0], rooms_behind, slip_reader(2), [1] * 40)
        for word in ([0] * 41, (0,) * 41, [2], [0, -1], [True], [False], [0, None], ["0"], "0", b"0", range(1), {0},
                     [[]], [0, (0,)]):
            self.refuses(InvalidWord, word, rooms_behind, slip_reader(2), word)
        self.refuses_junk(InvalidWord, rooms_behind, slip_reader(2), None, at=1, fine=([], [0], (), (0,)))
        self.refuses_junk(InvalidReader, rooms_behind, None, None, at=0, fine=ONE)
