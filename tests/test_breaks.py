"""Standings of break points: to which they go on, which come, and whether a row breaks them for ever."""

import itertools

from tests import oracles
from tests.tools import (WAYS_400, WAYS_401, PromiseCase, clean_reader, far_reader, full_reader, junk, last_reader,
                         letters_of, slip_reader, some_readers, some_rows, step_reader, told_otherwise)
from tworivals.breaks import break_table, lets_by_breaks, next_standing, standing_behind, standings
from tworivals.errors import InvalidLetter, InvalidReader, InvalidRow, InvalidStanding, InvalidWord
from tworivals.readers import Reader
from tworivals.runs import lets_by

ONE = [Reader(1, 1, [(0, 0, 0, 0)])]
FIRST = ((0,), (0,))


def all_standings(rooms):
    """All standings of so many rooms, whether they come or not."""
    lots = [lot for many in range(1, rooms + 1) for lot in itertools.combinations(range(rooms), many)]
    return [(lot, clean) for lot in lots for clean in lots if set(clean) <= set(lot)]


class TestNextStanding(PromiseCase):

    def test_last(self):
        last = last_reader()
        self.gives((((0, 1), (0, 1)), True), next_standing, last, FIRST, 1)
        self.gives((((0, 1), (0,)), False), next_standing, last, FIRST, 0)
        self.gives((((0, 1), (1,)), False), next_standing, last, ((0, 1), (0, 1)), 1)
        self.gives((((0, 1), (0, 1)), True), next_standing, last, ((0, 1), (1,)), 0)

    def test_those_that_never_come(self):
        last = last_reader()
        self.gives((((0, 1), (1,)), False), next_standing, last, ((1,), (1,)), 1)
        self.gives((((0, 1), (0, 1)), True), next_standing, last, ((1,), (1,)), 0)
        for reader in some_readers(40):
            for standing in all_standings(min(reader.rooms, 4)):
                for letter in range(reader.letters):
                    self.gives(oracles.going_on(reader, standing, letter), next_standing, reader, standing, letter)

    def test_clean_goes_on_from_clean_alone(self):
        # A clean way from room 1, which is in the lot, but not in clean, keeps nothing clean.
        reader = Reader(1, 3, [(0, 0, 2, 1), (1, 0, 1, 0), (2, 0, 2, 1)])
        self.gives((((1, 2), (1, 2)), True), next_standing, reader, ((0, 1), (0,)), 0)
        self.gives((((1, 2), (1,)), False), next_standing, reader, ((0, 1), (0, 1)), 0)

    def test_many_rooms(self):
        reader = far_reader()
        for lot in itertools.combinations(range(12), 2):
            for clean in (lot, lot[:1], lot[1:]):
                for letter in range(3):
                    self.gives(oracles.going_on(reader, (lot, clean), letter), next_standing, reader, (lot, clean), letter)

    def test_what_is_clean_may_be_all(self):
        self.gives((FIRST, False), next_standing, clean_reader(), FIRST, 0)
        self.gives((FIRST, True), next_standing, slip_reader(), FIRST, 0)

    def test_wrong_standings(self):
        reader = Reader(1, 3, [(0, 0, 1, 0), (1, 0, 2, 0), (2, 0, 0, 1)])
        for standing in (((), ()), ((0,), ()), ((), (0,)), ((0,), (1,)), ((0, 1), (2,)), ((0, 1), (0, 2)), ((1, 0), (0,)),
                         ((0, 1), (1, 0)), ((0, 0), (0,)), ((0,), (0, 0)), ((3,), (3,)), ((0, 3), (0,)), ((-1, 0), (0,)),
                         ([0], (0,)), ((0,), [0]), [(0,), (0,)], ((0,), (0,), (0,)), ((0,),), (0, 0), ((False,), (0,)),
                         ((0,), (False,)), ((0, True), (0,)), ((0, 1), (True,)), ((0, None), (0,)), ((0, "1"), (0,)),
                         ((0, []), (0,)), ((0,), ({},)), (range(1), (0,)), ({0}, {0}), ("0", "0"), (b"\0", b"\0"),
                         (((0,),), ((0,),))):
            self.assertFalse(oracles.is_standing(reader, standing))
            self.refuses(InvalidStanding, standing, next_standing, reader, standing, 0)
            self.refuses(InvalidStanding, standing, next_standing, reader, standing, 1)
        self.refuses_junk(InvalidStanding, next_standing, reader, None, None, at=1)

    def test_wrong(self):
        self.refuses_junk(InvalidReader, next_standing, None, None, None, at=0, fine=ONE)
        for letter in (2, 3, -1, 10 ** 29):
            self.refuses(InvalidLetter, letter, next_standing, last_reader(), FIRST, letter)
        self.refuses_junk(InvalidLetter, next_standing, last_reader(), FIRST, None, at=2)


class TestStandingBehind(PromiseCase):

    def test_behind(self):
        self.gives((((0, 1), (0, 1)), 2), standing_behind, last_reader(), [1, 0, 1])
        self.gives((FIRST, 0), standing_behind, last_reader(), [])
        self.gives((FIRST, 0), standing_behind, last_reader(), ())
        self.gives((FIRST, 40), standing_behind, slip_reader(), [0] * 40)
        self.gives((FIRST, 0), standing_behind, clean_reader(), [0] * 40)
        self.gives((((4,), (4,)), 4), standing_behind, step_reader(12), [1] * 4)

    def test_letter_by_letter(self):
        for reader in some_readers(60) + [full_reader(), far_reader()]:
            for begin, again in some_rows(reader.letters, 5, reader.many):
                standing, broken = FIRST, 0
                for letter in begin + again:
                    standing, breaks = oracles.going_on(reader, standing, letter)
                    broken += breaks
                self.gives((standing, broken), standing_behind, reader, begin + again)
                self.gives((standing, broken), standing_behind, reader, list(begin + again))

    def test_lot_and_clean(self):
        # The lot has what some run comes to; clean what is come to cleanly since the last break.
        for reader in some_readers(40):
            for begin, again in some_rows(reader.letters, 4, reader.many):
                word, since = begin + again, 0
                for place in range(1, len(word) + 1):
                    if standing_behind(reader, word[:place])[1] > standing_behind(reader, word[:place - 1])[1]:
                        since = place
                (lot, clean), _ = standing_behind(reader, word)
                self.assertEqual(set(lot), oracles.behind(reader, {0}, word))
                before = oracles.behind(reader, {0}, word[:since])
                self.assertEqual(set(clean), oracles.behind(reader, before, word[since:], clean=True))

    def test_wrong(self):
        for word in ([0] * 41, (0,) * 41, [2], [0, -1], [True], [False], [0, None], ["0"], "0", b"0", range(1), {0}):
            self.refuses(InvalidWord, word, standing_behind, slip_reader(2), word)
        self.refuses_junk(InvalidWord, standing_behind, slip_reader(2), None, at=1, fine=([], [0], (), (0,)))
        self.refuses_junk(InvalidReader, standing_behind, None, None, at=0, fine=ONE)


class TestStandings(PromiseCase):

    def test_those_that_come(self):
        self.gives([FIRST, ((0, 1), (0,)), ((0, 1), (0, 1)), ((0, 1), (1,))], standings, last_reader())
        self.gives([FIRST], standings, slip_reader(3))
        self.gives([((room,), (room,)) for room in range(12)], standings, step_reader(5))
        self.gives([FIRST], standings, Reader(1, 2, [(0, 0, 0, 0), (1, 0, 0, 0)]))

    def table(self, reader):
        come = oracles.coming_standings(reader)
        self.gives(come, standings, reader)
        rows = []
        for standing in come:
            steps = [oracles.going_on(reader, standing, letter) for letter in range(reader.letters)]
            rows.append([(come.index(to), breaks) for to, breaks in steps])
        self.gives(rows, break_table, reader)

    def test_by_walking(self):
        for reader in some_readers(120):
            self.table(reader)

    def test_table(self):
        self.gives([[(1, False), (2, True)], [(1, False), (2, True)], [(1, False), (3, False)], [(2, True), (3, False)]],
                   break_table, last_reader())
        self.gives([[(0, True)]], break_table, slip_reader())
        self.gives([[(0, False)]], break_table, clean_reader())
        table = break_table(last_reader())
        table[0].clear()
        self.assertEqual(len(break_table(last_reader())[0]), 2)

    def test_most(self):
        reader = Reader(2, 8, WAYS_400)
        self.assertEqual(len(oracles.coming_standings(reader)), 400)
        self.table(reader)
        more = Reader(3, 7, WAYS_401)
        self.assertEqual(len(oracles.coming_standings(more)), 401)
        self.too_many("standings", 400, standings, more)
        self.too_many("standings", 400, break_table, more)

    def test_far_more(self):
        ways = {(room, letter, (room * (letter + 1) + 1) % 12, 0) for room in range(12) for letter in range(4)}
        ways |= {(room, letter, (room + 5 * letter + 2) % 12, room % 2) for room in range(12) for letter in range(4)}
        reader = Reader(4, 12, list(ways))
        self.too_many("standings", 400, standings, reader)
        self.too_many("standings", 400, break_table, reader)
        for row in some_rows(4, 5):
            self.gives(lets_by(reader, row), lets_by_breaks, reader, row)
            self.ask(standing_behind, reader, row[0])

    def test_wrong(self):
        for function in (standings, break_table):
            self.refuses_junk(InvalidReader, function, None, at=0, fine=ONE)


class TestLetsByBreaks(PromiseCase):

    def test_last(self):
        self.gives(True, lets_by_breaks, last_reader(), ((1, 0), (0,)))
        self.gives(False, lets_by_breaks, last_reader(), ((), (0, 1)))
        self.gives(True, lets_by_breaks, last_reader(), ((0, 1) * 20, (1,) * 40))

    def test_breaks_ahead_do_not_count(self):
        reader = Reader(2, 1, [(0, 0, 0, 1), (0, 1, 0, 0)])
        self.gives(True, lets_by_breaks, reader, ((0,) * 40, (1,)))
        self.gives(False, lets_by_breaks, reader, ((1,) * 40, (1,) * 39 + (0,)))
        self.gives(False, lets_by_breaks, reader, ((), (0, 1)))

    def test_late_breaks(self):
        # Twelve rounds without a break, and then one: the rounds have to go round.
        for slips in (0, 1, 12):
            self.gives(slips == 0, lets_by_breaks, step_reader(slips), ((), (0, 1)))
            self.gives(slips == 0, lets_by_breaks, step_reader(slips), ((1,), (0,) * 39 + (1,)))
        once = Reader(1, 12, [(room, 0, min(room + 1, 11), 0 if room in (9, 11) else 1) for room in range(12)])
        self.gives(True, lets_by_breaks, once, ((), (0,)))

    def test_as_lets_by(self):
        found = {True: 0, False: 0}
        for reader in some_readers(150) + [full_reader(), Reader(2, 8, WAYS_400), Reader(3, 7, WAYS_401)]:
            for row in some_rows(reader.letters, 8, reader.many):
                let = oracles.is_let(reader, row)
                self.gives(let, lets_by_breaks, reader, row)
                self.gives(let, lets_by, reader, row)
                found[let] += 1
        self.assertGreater(min(found.values()), 200)

    def test_by_counting(self):
        # Far on, breaks go on coming exactly if they come for ever.
        for reader in some_readers(30):
            for row in some_rows(reader.letters, 3, reader.many):
                standing, broken = FIRST, []
                for letter in letters_of(row, 400):
                    standing, breaks = oracles.going_on(reader, standing, letter)
                    broken.append(breaks)
                self.gives(not any(broken[200:]), lets_by_breaks, reader, row)

    def test_the_same_row_told_otherwise(self):
        for reader in some_readers(30):
            for row in some_rows(reader.letters, 4, reader.many):
                for other in told_otherwise(row):
                    self.gives(lets_by_breaks(reader, row), lets_by_breaks, reader, other)

    def test_wrong(self):
        self.refuses_junk(InvalidReader, lets_by_breaks, None, None, at=0, fine=ONE)
        self.refuses_junk(InvalidRow, lets_by_breaks, last_reader(), None, at=1)
        for row in (((), (2,)), ((2,), (0,)), ((), (0,) * 41), ((0,) * 41, (0,)), [(), (0,)], ((), [0])):
            self.refuses(InvalidRow, row, lets_by_breaks, last_reader(), row)
        self.gives(True, lets_by_breaks, clean_reader(3), ((2,), (0,)))

    def test_standings_of_any_value(self):
        for value in junk():
            self.assertFalse(oracles.is_standing(last_reader(), value), value)
