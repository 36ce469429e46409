"""Readers within one another: whether, by which papers, and by which rows they are parted."""

import random

from tests import oracles
from tests.tools import (WAYS_400, WAYS_401, PromiseCase, clean_reader, far_reader, full_reader, junk, last_reader,
                         round_reader, slip_reader, some_readers, some_rows, some_ways, step_reader)
from tworivals.errors import InvalidReader
from tworivals.readers import Reader, renamed
from tworivals.rows import rows_to
from tworivals.runs import lets_by
from tworivals.within import are_equal, is_parting_row, is_within, is_within_paper, parting_row, within_paper

FIRST = ((0,), (0,))
ONE = [Reader(1, 1, [(0, 0, 0, 0)])]
TOLD = (is_within, are_equal, within_paper, parting_row)
JUDGES = (is_within_paper, is_parting_row)


def noughts_reader():
    """It lets by what has from some place on noughts alone."""
    return Reader(2, 1, [(0, 0, 0, 0), (0, 1, 0, 1)])


def some_pairs(many, seed=1):
    """So many pairs of readers of as many letters, the same each time; not few of them are within one another."""
    source = random.Random(seed)
    pairs = []
    for reader in some_readers(many, seed):
        rooms = source.randint(1, 4)
        other = Reader(reader.letters, rooms, some_ways(source, reader.letters, rooms, source.randrange(1, 4)))
        fewer = [way for way in reader.ways() if way == reader.way(reader.ways_by(*way[:2])[0])]
        cut = Reader(reader.letters, reader.rooms, fewer)
        pairs += [(reader, other), (other, reader), (cut, reader), (reader, cut), (reader, reader)]
    return pairs


def slow_reader(rooms):
    """One letter: it comes to all its rooms at once only behind many steps; all its ways slip, so it lets nothing by."""
    ways = [(room, 0, (room + 1) % rooms, 1) for room in range(rooms)] + [(rooms - 1, 0, 1 % rooms, 1)]
    return Reader(1, rooms, ways)


def tail_reader(rooms, extra):
    """One letter, by which one goes round, but for one way more; all its ways slip."""
    return Reader(1, rooms, [(room, 0, (room + 1) % rooms, 1) for room in range(rooms)] + [(extra[0], 0, extra[1], 1)])


def word_reader(rooms):
    """Only what has 0s, and behind all but one of so many letters a 1, is gone cleanly."""
    return Reader(2, rooms, [(room, letter, (room + 1) % rooms, int(letter != room // (rooms - 1)))
                             for room in range(rooms) for letter in (0, 1)])


def counting_reader(rooms):
    """It slips at each 1 that is the last of so many."""
    return Reader(2, rooms, [(room, 0, room, 0) for room in range(rooms)]
                  + [(room, 1, (room + 1) % rooms, room // (rooms - 1)) for room in range(rooms)])


class TestWithin(PromiseCase):

    def checked(self, reader, other):
        """All that is told of both fits together; whether the reader is within the other one."""
        paper = oracles.within_paper(reader, other)
        self.gives(paper, within_paper, reader, other)
        self.gives(paper is not None, is_within, reader, other)
        if paper is not None:
            self.gives(True, is_within_paper, reader, other, paper)
            self.gives(None, parting_row, reader, other)
        elif oracles.is_soon_parted(reader, other):
            row = self.ask(parting_row, reader, other, exact=False)
            self.assertTrue(oracles.parts(reader, other, row))
            self.assertLessEqual(max(len(row[0]), len(row[1])), 40)
            self.gives(True, is_parting_row, reader, other, row)
            self.gives(False, is_parting_row, other, reader, row)
        else:
            self.too_many("letters", 40, parting_row, reader, other)
        return paper is not None

    def test_noughts(self):
        last, noughts = last_reader(), noughts_reader()
        self.assertTrue(self.checked(noughts, last))
        self.assertFalse(self.checked(last, noughts))
        self.gives(False, are_equal, last, noughts)
        self.gives(False, are_equal, noughts, last)
        self.gives([((0, FIRST), 0), ((0, ((0, 1), (0,))), 0), ((0, ((0, 1), (0, 1))), 0), ((0, ((0, 1), (1,))), 1)],
                   within_paper, noughts, last)

    def test_by_growing(self):
        found = {True: 0, False: 0}
        for reader, other in some_pairs(120):
            found[self.checked(reader, other)] += 1
        self.assertGreater(min(found.values()), 100)

    def test_by_rows(self):
        rows = {letters: rows_to(letters, many) for letters, many in ((1, 8), (2, 6), (3, 4), (4, 3))}
        unlike = 0
        for reader, other in some_pairs(60, 2):
            parting = [row for row in rows[reader.letters] if lets_by(reader, row) and not lets_by(other, row)]
            if is_within(reader, other):
                self.assertEqual(parting, [])
            for row in parting:
                self.gives(True, is_parting_row, reader, other, row)
            # Few letters and rooms: a row that parts them needs but few letters.
            if reader.rooms * other.rooms <= 2:
                self.assertEqual(is_within(reader, other), not parting)
                unlike += 1
        self.assertGreater(unlike, 5)

    def test_itself(self):
        for reader in some_readers(60) + [step_reader(5), Reader(2, 8, WAYS_400)]:
            self.gives(True, are_equal, reader, reader)
            self.gives(True, is_within, reader, Reader(reader.letters, reader.rooms, reader.ways()))
            self.gives(None, parting_row, reader, reader)
            order = [0] + list(range(reader.rooms - 1, 0, -1))
            self.gives(True, are_equal, reader, renamed(reader, order))

    def test_equal(self):
        found = {True: 0, False: 0}
        for reader, other in some_pairs(80, 3):
            both = oracles.within_paper(reader, other) is not None and oracles.within_paper(other, reader) is not None
            self.gives(both, are_equal, reader, other)
            found[both] += 1
        self.assertGreater(min(found.values()), 50)

    def test_all_and_nothing(self):
        for reader in some_readers(30):
            everything, nothing = clean_reader(reader.letters), slip_reader(reader.letters)
            self.assertTrue(self.checked(reader, everything))
            self.assertTrue(self.checked(nothing, reader))
            self.checked(everything, reader)
            self.checked(reader, nothing)
        self.gives(False, is_within, clean_reader(), slip_reader())

    def test_breaks_by_slips_do_not_count(self):
        # All breaks of the other one come where the reader slips.
        reader, other = round_reader(3, [1]), round_reader(3, [1])
        self.assertTrue(self.checked(reader, other))
        self.gives(False, is_within, round_reader(3), other)
        self.gives(True, is_within, reader, round_reader(3, [0, 2]))
        self.gives(True, is_within, round_reader(4, [1]), round_reader(2, [0]))
        self.gives(False, is_within, round_reader(1), round_reader(2, [0]))

    def test_least_numbers_count_breaks_on_the_worst_row(self):
        # All breaks; two clean ways one behind another from room 0, but only one if the slip is taken.
        reader = Reader(1, 4, [(0, 0, 1, 0), (0, 0, 2, 0), (1, 0, 3, 0), (2, 0, 3, 1), (3, 0, 3, 1)])
        other = slip_reader()
        self.gives([((0, FIRST), 2), ((1, FIRST), 1), ((2, FIRST), 0), ((3, FIRST), 0)], within_paper, reader, other)

    def proved(self, reader, other):
        """What is told of both shows itself by a paper or by a row."""
        paper = self.ask(within_paper, reader, other)
        self.gives(paper is not None, is_within, reader, other)
        if paper is not None:
            self.assertTrue(oracles.is_within_paper(reader, other, paper))
            self.gives(None, parting_row, reader, other)
        else:
            row = self.ask(parting_row, reader, other, exact=False)
            self.assertTrue(oracles.parts(reader, other, row))

    def test_many_nodes(self):
        many = Reader(2, 8, WAYS_400)
        other = Reader(3, 2, [(room, letter, (room + letter) % 2, (room * letter) % 2)
                              for room in (0, 1) for letter in (0, 1, 2)])
        self.proved(far_reader(), other)
        self.proved(full_reader(), clean_reader(4))
        self.proved(full_reader(), slip_reader(4))
        self.proved(step_reader(3), many)
        self.proved(many, step_reader(3))
        self.proved(many, last_reader())
        self.proved(Reader(2, 12, [(room, letter, (room + letter) % 12, 1 if room < 11 else letter)
                                   for room in range(12) for letter in (0, 1)]), many)

    def test_paper_of_many_nodes(self):
        slow = Reader(2, 12, [(room, letter, (room + letter + 1) % 12, 1) for room in range(12) for letter in (0, 1)])
        paper = oracles.within_paper(slow, Reader(2, 8, WAYS_400))
        self.assertGreater(len(paper), 4000)
        self.gives(paper, within_paper, slow, Reader(2, 8, WAYS_400))
        self.gives(True, is_within_paper, slow, Reader(2, 8, WAYS_400), paper)


class TestManyLetters(PromiseCase):

    def test_rings(self):
        # All ways of the one are clean: its rooms and the other one's go round together.
        for rooms, many, told in ((5, 8, True), (8, 5, True), (6, 7, False), (7, 6, False), (9, 4, True), (11, 12, False),
                                  (12, 12, True), (4, 10, True), (12, 9, True), (3, 11, True), (11, 4, False)):
            reader, other = round_reader(rooms), round_reader(many, [many - 1])
            self.gives(False, is_within, reader, other)
            self.assertEqual(oracles.is_soon_parted(reader, other), told)
            self.gives(True, is_parting_row, reader, other, ((), (0,)))
            if told:
                self.assertTrue(oracles.parts(reader, other, self.ask(parting_row, reader, other, exact=False)))
            else:
                self.too_many("letters", 40, parting_row, reader, other)

    def test_far_rings(self):
        # The ring, of one step, is where all rooms of the other one are come to.
        reader = clean_reader()
        behind = {}
        for rooms in (3, 5, 6, 7, 8, 9):
            other = slow_reader(rooms)
            far = max(oracles.fewest({node: [step[1] for step in steps] for node, steps
                                      in oracles.coming_nodes(reader, other).items()}, (0, FIRST)).values())
            behind[rooms] = far
            self.gives(False, is_within, reader, other)
            if far <= 40:
                row = self.ask(parting_row, reader, other, exact=False)
                self.assertTrue(oracles.parts(reader, other, row))
            else:
                self.too_many("letters", 40, parting_row, reader, other)
        self.assertLess(behind[7], 41)
        self.assertGreater(behind[8], 40)

    def test_just_40_steps_to_the_ring(self):
        for rooms, extra, many in ((9, (3, 8), 39), (9, (4, 0), 40), (11, (3, 0), 40), (9, (5, 1), 41), (11, (4, 1), 41)):
            reader, other = clean_reader(), tail_reader(rooms, extra)
            steps = {node: [(to, 1) for _, to, _, _ in onward]
                     for node, onward in oracles.coming_nodes(reader, other).items()}
            self.assertEqual(oracles.is_short(steps, (0, FIRST), many), True)
            self.assertEqual(oracles.is_short(steps, (0, FIRST), many - 1), False)
            if many <= 40:
                begin, again = self.ask(parting_row, reader, other, exact=False)
                self.assertEqual((begin, again), ((0,) * many, (0,)))
            else:
                self.too_many("letters", 40, parting_row, reader, other)

    def test_just_40_steps_round_the_ring(self):
        for rooms, many in ((8, 5), (10, 4), (4, 10), (6, 7), (7, 6), (3, 12), (12, 4)):
            reader, other = word_reader(rooms), counting_reader(many)
            self.gives(False, is_within, reader, other)
            if rooms * many <= 40:
                begin, again = self.ask(parting_row, reader, other, exact=False)
                self.assertEqual(len(again), rooms * many)
                self.assertTrue(oracles.parts(reader, other, (begin, again)))
            else:
                self.too_many("letters", 40, parting_row, reader, other)

    def test_near_rings_may_be_too_long_and_far_ones_short(self):
        # Round and round without a break, until a 1; then many more 0s, and a short ring with a break.
        source = random.Random(4)
        found = {True: 0, False: 0}
        for _ in range(400):
            rooms, many = source.randint(5, 9), source.randint(4, 8)
            reader = Reader(2, rooms, [(room, 0, (room + 1) % rooms, 0) for room in range(rooms)]
                            + [(room, 1, source.randrange(rooms), source.choice([1, 1, 1, 0])) for room in range(rooms)])
            slips = source.sample(range(many), 1)
            other = Reader(2, many, [(room, 0, (room + 1) % many, int(room in slips)) for room in range(many)]
                           + [(room, 1, source.randrange(many), 0) for room in range(many)])
            told = oracles.is_soon_parted(reader, other)
            if oracles.within_paper(reader, other) is not None:
                continue
            found[told] += 1
            if told:
                self.assertTrue(oracles.parts(reader, other, self.ask(parting_row, reader, other, exact=False)))
            else:
                self.too_many("letters", 40, parting_row, reader, other)
        self.assertGreater(min(found.values()), 12)

    def test_a_ring_may_come_to_a_node_twice(self):
        # No ring of unlike nodes through where one begins has a break, but a longer one goes round room 1, too.
        reader = Reader(2, 2, [(0, 0, 1, 0), (0, 1, 0, 1), (1, 0, 1, 0), (1, 1, 0, 0)])
        other = Reader(2, 2, [(0, 0, 1, 0), (0, 1, 0, 0), (1, 0, 1, 1), (1, 1, 0, 0)])
        self.gives(False, is_within, reader, other)
        row = self.ask(parting_row, reader, other, exact=False)
        self.assertTrue(oracles.parts(reader, other, row))


class TestTooManyStandings(PromiseCase):

    def test_the_last_that_fits(self):
        other = Reader(2, 8, WAYS_400)
        self.assertEqual(len(within_paper(slip_reader(2), other)), 400)
        for reader in (slip_reader(2), clean_reader(2), last_reader()):
            self.gives(oracles.within_paper(reader, other) is not None, is_within, reader, other)

    def test_of_the_other_one(self):
        other = Reader(3, 7, WAYS_401)
        for reader in (slip_reader(3), clean_reader(3), other):
            for function in TOLD:
                self.too_many("standings", 400, function, reader, other)
            self.gives(False, is_within_paper, reader, other, [])
            self.gives(False, is_within_paper, reader, other, None)
            self.gives(False, is_parting_row, reader, other, None)
            row = ((0, 2), (1, 2, 1))
            self.gives(oracles.parts(reader, other, row), is_parting_row, reader, other, row)

    def test_of_the_reader(self):
        reader = Reader(3, 7, WAYS_401)
        for other in (slip_reader(3), clean_reader(3)):
            for function in (is_within, within_paper, parting_row):
                self.ask(function, reader, other, exact=False)
            self.too_many("standings", 400, are_equal, reader, other)
            self.too_many("standings", 400, are_equal, other, reader)

    def test_judges_take_papers_of_many(self):
        other = Reader(3, 7, WAYS_401)
        paper = oracles.within_paper(slip_reader(3), other)
        self.assertEqual(len(paper), 401)
        self.gives(True, is_within_paper, slip_reader(3), other, paper)
        self.gives(False, is_within_paper, slip_reader(3), other, paper[:-1])


class TestIsWithinPaper(PromiseCase):

    def changed(self, source, reader, other, paper):
        """Values with one thing otherwise, some of them papers all the same."""
        yield from [tuple(paper), paper[1:], paper[:-1], paper[::-1], paper + paper[-1:], [list(item) for item in paper],
                    dict(paper), None, [], (), set(paper), (paper,)]
        for at, (node, number) in enumerate(paper):
            rest = paper[:at], paper[at + 1:]
            room, (lot, clean) = node
            yield rest[0] + rest[1]
            yield rest[0] + [(node, number), (node, number)] + rest[1]
            yield rest[0] + [(node, number), (node, number + 1)] + rest[1]
            for told in (number + 1, number - 1, 0, 10 ** 29, -1, bool(number), None, "0", [0], (0,)):
                yield rest[0] + [(node, told)] + rest[1]
            for told in ((room, lot, clean), (room,), [room, (lot, clean)], (bool(room), (lot, clean)), None,
                         (-1, (lot, clean)), (reader.rooms, (lot, clean)), (room, [lot, clean]), (room, (lot, ())),
                         (room, (list(lot), clean)), (room, (lot, lot + (other.rooms,))), (room, (lot, clean, clean)),
                         (room, (tuple(map(bool, lot)), clean)), (room, (lot, lot)), ((lot, clean), room)):
                yield rest[0] + [(told, number)] + rest[1]
            yield rest[0] + [(node, number, 0)] + rest[1]
            yield rest[0] + [(node,)] + rest[1]
            yield rest[0] + [node] + rest[1]
        for _ in range(4):
            lot = tuple(sorted(source.sample(range(other.rooms), source.randint(1, other.rooms))))
            node = (source.randrange(reader.rooms), (lot, lot[:source.randint(1, len(lot))]))
            yield sorted(paper + [(node, source.randrange(3))])

    def test_by_definition(self):
        source = random.Random(7)
        yes = no = 0
        for reader, other in some_pairs(20, 5):
            paper = oracles.within_paper(reader, other)
            if paper is None:
                paper = [(node, source.randrange(3)) for node in sorted(oracles.coming_nodes(reader, other))]
            if len(paper) > 40:
                continue
            for start in (paper, [(node, 3 * number + 2) for node, number in paper]):
                for value in [start] + list(self.changed(source, reader, other, start)):
                    fits = oracles.is_within_paper(reader, other, value)
                    self.assertIs(is_within_paper(reader, other, value), fits, (reader.ways(), other.ways(), value))
                    yes, no = yes + fits, no + (not fits)
        self.assertGreater(yes, 500)
        self.assertGreater(no, 5000)

    def test_standings_that_never_come(self):
        reader, other = clean_reader(), Reader(1, 2, [(0, 0, 0, 0), (1, 0, 1, 0)])
        spare = (0, ((0, 1), (1,)))
        self.gives([((0, FIRST), 0)], within_paper, reader, other)
        self.gives(True, is_within_paper, reader, other, [((0, FIRST), 0), (spare, 0)])
        self.gives(True, is_within_paper, reader, other, [((0, FIRST), 10 ** 29), (spare, 3)])
        self.gives(False, is_within_paper, reader, other, [(spare, 0)])

    def test_slips_may_rise(self):
        reader, other = round_reader(2, [0]), slip_reader()
        self.gives(True, is_within_paper, reader, other, [((0, FIRST), 0), ((1, FIRST), 1)])
        self.gives(False, is_within_paper, reader, other, [((0, FIRST), 0), ((1, FIRST), 0)])

    def test_any_value(self):
        for value in junk():
            for told in (value, [value], [(value, 0)], [((0, FIRST), value)], [((value, FIRST), 0)],
                         [((0, value), 0)], [((0, (value, (0,))), 0)], [((0, ((0,), value)), 0)],
                         [((0, FIRST), 0), (value, 0)]):
                fits = oracles.is_within_paper(clean_reader(), clean_reader(), told)
                self.assertIs(is_within_paper(clean_reader(), clean_reader(), told), fits, told)


class TestIsPartingRow(PromiseCase):

    def test_by_definition(self):
        found = {True: 0, False: 0}
        for reader, other in some_pairs(60, 6):
            for row in some_rows(reader.letters, 6, reader.many):
                fits = oracles.parts(reader, other, row)
                self.gives(fits, is_parting_row, reader, other, row)
                found[fits] += 1
        self.assertGreater(min(found.values()), 100)

    def test_any_value(self):
        for value in junk() + [((0,), (2,)), ((), (0,) * 41), ((0,) * 41, (0,)), ((0,), [1]), ((True,), (1,))]:
            if value != ((0,), (1, 1)):
                self.assertIs(is_parting_row(last_reader(), noughts_reader(), value), False, value)
        self.gives(True, is_parting_row, last_reader(), noughts_reader(), ((0,) * 40, (1,) * 40))


class TestWrong(PromiseCase):

    def test_readers(self):
        for function in TOLD:
            self.refuses_junk(InvalidReader, function, None, None, at=0, fine=ONE)
            self.refuses_junk(InvalidReader, function, last_reader(), None, at=1, fine=ONE)
        for function in JUDGES:
            self.refuses_junk(InvalidReader, function, None, None, None, at=0, fine=ONE)
            self.refuses_junk(InvalidReader, function, last_reader(), None, None, at=1, fine=ONE)

    def test_unlike_letters(self):
        for reader, other in ((last_reader(), slip_reader()), (slip_reader(), last_reader()),
                              (slip_reader(2), Reader(3, 7, WAYS_401)), (Reader(3, 7, WAYS_401), slip_reader(2))):
            for function in TOLD:
                self.unlike_letters(function, reader, other)
            for function in JUDGES:
                for value in (None, [], ((), (0,))):
                    self.unlike_letters(function, reader, other, value)
