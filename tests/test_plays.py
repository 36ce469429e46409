"""Letter boards, who has a chooser, and chooser papers and foe papers."""

import random

from tests import board_oracles, oracles, play_oracles
from tests.limits import (LETTER_600_LOST, LETTER_600_WON, LETTER_601_LOST, LETTER_601_WON, STANDINGS_61_LOST,
                          STANDINGS_61_WON, reader_at)
from tests.play_oracles import GUESS, LONE, ONCE, PARTS, doubtful_readers, small_readers
from tests.tools import (WAYS_400, WAYS_401, PromiseCase, clean_reader, far_reader, full_reader, junk, last_reader,
                         round_reader, slip_reader, some_readers, step_reader)
from tworivals.boards import Board
from tworivals.errors import InvalidReader
from tworivals.peeling import winners
from tworivals.plays import chooser_paper, foe_paper, has_chooser, is_chooser_paper, is_foe_paper, letter_board
from tworivals.readers import Reader, is_single, renamed

FIRST = ((0,), (0,))
ONE = [Reader(1, 1, [(0, 0, 0, 0)])]
TOLD = (letter_board, has_chooser, chooser_paper, foe_paper)
JUDGES = (is_chooser_paper, is_foe_paper)


class TestLetterBoard(PromiseCase):

    def test_one_slip(self):
        board = Board([1, 0, 1], [0, 0, 2], [[1], [2], [1]])
        names = [("foe", 0, FIRST, 0), ("choice", 0, FIRST, 0), ("foe", 0, FIRST, 2)]
        self.gives((board, names), letter_board, slip_reader())

    def test_as_they_come(self):
        # A slip and a clean way to one room are two moves; by a break both lead to one place.
        reader = Reader(1, 2, [(0, 0, 0, 0), (0, 0, 0, 1), (0, 0, 1, 1), (1, 0, 1, 1), (1, 0, 1, 0)])
        both = ((0, 1), (0,))
        names = [("foe", 0, FIRST, 0), ("choice", 0, FIRST, 0), ("foe", 0, both, 0), ("foe", 0, both, 1),
                 ("foe", 1, both, 1), ("choice", 0, both, 0), ("choice", 1, both, 0), ("foe", 1, both, 0)]
        moves = [[1], [2, 3, 4], [5], [5], [6], [2, 3, 4], [4, 7], [6]]
        self.gives((Board([1, 0, 1, 1, 1, 0, 0, 1], [0, 0, 0, 1, 1, 0, 0, 0], moves), names), letter_board, reader)
        reader = Reader(1, 2, [(0, 0, 1, 1), (1, 0, 1, 1), (1, 0, 0, 1)])
        self.gives(play_oracles.letter_board(reader), letter_board, reader)

    def test_by_words(self):
        most = 0
        for reader in some_readers(120) + [round_reader(12, [3]), slip_reader(4), clean_reader(4)]:
            board, names = play_oracles.letter_board(reader)
            if board is None:
                self.too_many("places", 600, letter_board, reader)
                continue
            self.gives((board, names), letter_board, reader)
            most = max(most, board.many)
        self.assertGreater(most, 300)

    def test_600_places(self):
        for limit in (LETTER_600_WON, LETTER_600_LOST):
            board, names = self.ask(letter_board, reader_at(limit))
            self.assertEqual((board.many, len(names)), (600, 600))
            self.assertEqual((board, names), play_oracles.letter_board(reader_at(limit)))
        for limit in (LETTER_601_WON, LETTER_601_LOST):
            self.assertEqual(len(play_oracles.letter_board(reader_at(limit))[1]), 601)
            for function in TOLD:
                self.too_many("places", 600, function, reader_at(limit))

    def test_more_standings_come_first(self):
        for reader in (Reader(3, 7, WAYS_401), full_reader()):
            for function in TOLD:
                self.too_many("standings", 400, function, reader)
        for reader in (Reader(2, 8, WAYS_400), far_reader()):
            what = "standings" if len(oracles.coming_standings(reader)) > 400 else "places"
            for function in TOLD:
                self.too_many(what, 600 if what == "places" else 400, function, reader)

    def test_told_lists_are_new(self):
        letter_board(last_reader())[1].pop()
        self.gives(play_oracles.letter_board(last_reader()), letter_board, last_reader())

    def test_wrong(self):
        for function in TOLD:
            self.refuses_junk(InvalidReader, function, None, at=0, fine=ONE)


class TestHasChooser(PromiseCase):

    def test_examples(self):
        self.gives(True, has_chooser, last_reader())
        self.gives(False, has_chooser, Reader(*GUESS))
        for told in (ONCE, PARTS, LONE):
            reader = Reader(*told)
            self.gives(False, has_chooser, reader)

    def test_readers_without_choices(self):
        singles = [round_reader(12, [0, 5]), slip_reader(3), clean_reader(4), step_reader(0)]
        for reader in some_readers(60):
            cut = Reader(reader.letters, reader.rooms, [way for way in reader.ways()
                                                        if way == reader.way(reader.ways_by(*way[:2])[0])])
            singles.append(cut)
        for reader in singles:
            self.assertTrue(is_single(reader))
            self.gives(True, has_chooser, reader)

    def test_one_room_or_one_letter(self):
        source = random.Random(5)
        for letters in (1, 2, 3, 4):
            ways = [(0, letter, 0, slip) for letter in range(letters) for slip in source.choice([[0], [1], [0, 1]])]
            self.gives(True, has_chooser, Reader(letters, 1, ways))
        for reader in small_readers(60, 6, sizes=((1, 2), (1, 3), (1, 4), (1, 5))):
            self.gives(True, has_chooser, reader)

    def test_by_lifting(self):
        found = {True: 0, False: 0}
        for reader in small_readers(150, 2) + doubtful_readers(150, 2):
            told = play_oracles.has_chooser(reader)
            self.gives(told, has_chooser, reader)
            self.assertEqual(winners(letter_board(reader)[0])[0], 0 if told else 1)
            found[told] += 1
        self.assertGreater(min(found.values()), 30)

    def test_renamed(self):
        source = random.Random(7)
        for reader in small_readers(50, 3, sizes=((2, 3), (3, 3), (2, 4))) + doubtful_readers(50, 3):
            order = [0] + source.sample(range(1, reader.rooms), reader.rooms - 1)
            other = list(range(reader.letters))
            source.shuffle(other)
            exchanged = Reader(reader.letters, reader.rooms, [(room, other[letter], to, slip)
                                                              for room, letter, to, slip in reader.ways()])
            if play_oracles.letter_board(reader)[0] is not None:
                told = has_chooser(reader)
                self.gives(told, has_chooser, renamed(reader, order))
                self.gives(told, has_chooser, exchanged)
                self.assertEqual(len(letter_board(exchanged)[1]), len(letter_board(reader)[1]))


class TestPapers(PromiseCase):

    def checked(self, reader, told):
        chooser, foe = [self.ask(function, reader, exact=False) for function in (chooser_paper, foe_paper)]
        paper, other = (chooser, foe) if told else (foe, chooser)
        self.assertIsNone(other)
        self.assertIs(type(paper), list)
        self.assertIs((play_oracles.is_chooser_paper if told else play_oracles.is_foe_paper)(reader, paper), True)
        self.gives(told, is_chooser_paper, reader, paper)
        self.gives(not told, is_foe_paper, reader, paper)
        if told:
            self.assertEqual({type(ways) for _, ways, _ in paper}, {list})
        self.assertTrue(all(number < 10 ** 7 for item in paper for number in ([item[2]] if told else item[2])))

    def test_who_has_one(self):
        found = {True: 0, False: 0}
        for reader in small_readers(150, 4, sizes=((1, 2), (2, 2), (3, 2), (3, 3), (2, 4))) + doubtful_readers(200, 4):
            board, _ = play_oracles.letter_board(reader)
            if board is not None:
                told = board_oracles.winners_by_lifting(board)[0] == 0
                self.checked(reader, told)
                found[told] += 1
        self.assertGreater(min(found.values()), 50)

    def test_at_the_limits(self):
        for limit, told in ((LETTER_600_WON, True), (LETTER_600_LOST, False), (STANDINGS_61_WON, True),
                            (STANDINGS_61_LOST, False)):
            self.checked(reader_at(limit), told)
            self.gives(told, has_chooser, reader_at(limit))

    def test_a_letter_that_hangs_on_the_position_alone(self):
        # The same position is come to by slips, by clean ways and by breaks: one letter has to do.
        for reader in small_readers(150, 8, sizes=((2, 4), (3, 3), (2, 3))) + doubtful_readers(200, 5):
            board, _ = play_oracles.letter_board(reader)
            if board is not None and board_oracles.winners_by_lifting(board)[0] == 1:
                self.checked(reader, False)

    def test_no_choice(self):
        self.checked(clean_reader(), True)
        self.checked(slip_reader(), True)
        self.checked(round_reader(12, [4]), True)
        self.checked(last_reader(), True)
        self.checked(Reader(*GUESS), False)


class TestJudges(PromiseCase):

    def test_examples(self):
        slip = slip_reader()
        self.gives(True, is_chooser_paper, slip, [((0, FIRST), [0], 5)])
        self.gives(False, is_foe_paper, slip, [((0, FIRST), 0, (1, 1))])

    def test_slips_and_breaks_of_choosers(self):
        # Room 1 is behind a slip; by 1 all breaks.
        both = ((0, 1), (0, 1))
        reader = Reader(2, 2, [(0, 0, 0, 0), (0, 0, 1, 1), (0, 1, 0, 1), (0, 1, 1, 1), (1, 0, 0, 1), (1, 0, 1, 0),
                               (1, 1, 0, 1), (1, 1, 1, 1)])
        first, zero = (0, FIRST), (0, ((0, 1), (0,)))
        self.assertEqual(oracles.going_on(reader, FIRST, 0), (((0, 1), (0,)), False))
        self.assertEqual(oracles.going_on(reader, FIRST, 1), (both, True))
        for numbers, fits in (((0, 0, 0), True), ((3, 1, 0), True), ((0, 1, 0), False), ((0, 0, 7), True),
                              ((1, 0, 9), True)):
            paper = [(first, [0, 2], numbers[0]), (zero, [0, 2], numbers[1]), ((0, both), [0, 2], numbers[2])]
            self.gives(play_oracles.is_chooser_paper(reader, paper), is_chooser_paper, reader, paper)
            self.assertEqual(play_oracles.is_chooser_paper(reader, paper), fits)

    def changed(self, source, reader, paper, chooser):
        """Values with one thing otherwise, some of them papers all the same."""
        yield from [tuple(paper), paper[1:], paper[:-1], paper[::-1], paper + paper[-1:], [list(item) for item in paper],
                    dict.fromkeys(range(3)), None, [], (), {}, (paper,), [item[:2] for item in paper],
                    [(*item, 0) for item in paper]]
        for at, item in enumerate(paper):
            position, named, number = item
            room, (lot, clean) = position

            def instead(*items):
                return paper[:at] + list(items) + paper[at + 1:]

            yield instead()
            yield instead(item, item)
            yield instead(item, (position, named, number), )
            for told in ([], (room,), [room, (lot, clean)], (bool(room), (lot, clean)), (-1, (lot, clean)), None,
                         (reader.rooms, (lot, clean)), (room, [lot, clean]), (room, (lot, ())), (room, (lot, lot)),
                         (room, (lot, clean, clean)), (room, (lot, (reader.rooms,))), (room, lot, clean)):
                yield instead((told, named, number))
            numbers = (0, 1, 2, 5, 10 ** 29, -1, True, None, "0", [0], (0, 0), (0, 1), (1, 0), (2, 2), (3, 1), (0, True),
                       (-1, 0), (0,), (0, 0, 0), [0, 0], (0, None), ((0, 0), 0))
            for told in numbers:
                yield instead((position, named, told))
            for told in (None, "0", -1, True, 10 ** 29, {}, [], reader.letters, [0] * reader.letters, [None] * reader.letters,
                         [reader.many] * reader.letters, list(range(reader.letters)), "01"[:reader.letters]):
                yield instead((position, told, number))
            if chooser:
                yield instead((position, tuple(named), number))
                yield instead((position, named[:-1], number))
                yield instead((position, named + named[-1:], number))
                yield instead((position, [bool(way) for way in named], number))
                for letter in range(reader.letters):
                    for way in (source.randrange(reader.many), *reader.ways_by(room, letter), -1):
                        yield instead((position, named[:letter] + [way] + named[letter + 1:], number))
            else:
                for letter in range(reader.letters):
                    yield instead((position, letter, number))
        lot = tuple(sorted(source.sample(range(reader.rooms), source.randint(1, reader.rooms))))
        for room in range(reader.rooms):
            ways = [reader.ways_by(room, letter)[-1] for letter in range(reader.letters)]
            more = ((room, (lot, lot)), ways if chooser else 0, 4 if chooser else (4, 4))
            yield sorted(paper + [more], key=lambda item: item[0])

    def some_papers(self, source, reader, chooser):
        """A told one, perhaps one with all positions that come, and things at random."""
        told = (chooser_paper if chooser else foe_paper)(reader)
        if told is not None:
            yield told
        positions = sorted({name[1:3] for name in play_oracles.letter_board(reader)[1]})
        for most in (1, 3):
            if chooser:
                yield [(position, [source.choice(reader.ways_by(position[0], letter)) for letter in range(reader.letters)],
                        source.randrange(most)) for position in positions]
            else:
                yield [(position, source.randrange(reader.letters), (source.randrange(most), source.randrange(most)))
                       for position in positions]

    def by_definition(self, judge, rule, chooser):
        source = random.Random(11)
        yes = no = 0
        for reader in small_readers(20, 9) + doubtful_readers(40, 9):
            if len(play_oracles.letter_board(reader)[1]) > 60:
                continue
            for paper in self.some_papers(source, reader, chooser):
                for value in [paper] + list(self.changed(source, reader, paper, chooser)):
                    fits = rule(reader, value)
                    self.assertIs(judge(reader, value), fits, (reader.ways(), value))
                    yes, no = yes + fits, no + (not fits)
        self.assertGreater(yes, 300)
        self.assertGreater(no, 5000)

    def test_chooser_papers(self):
        self.by_definition(is_chooser_paper, play_oracles.is_chooser_paper, True)

    def test_foe_papers(self):
        self.by_definition(is_foe_paper, play_oracles.is_foe_paper, False)

    def test_any_value(self):
        for reader in (slip_reader(), clean_reader(2)):
            for value in junk():
                for told in (value, [value], [(value, [0], 0)], [((0, FIRST), value, 0)], [((0, FIRST), [0], value)],
                             [((0, FIRST), [value], 0)], [((0, FIRST), 0, value)], [((0, FIRST), value, (0, 0))],
                             [((0, FIRST), 0, (value, 0))], [((0, FIRST), 0, (0, value))], [((value, FIRST), [0], 0)],
                             [((0, value), [0], 0)], [((0, ((0,), value)), 0, (0, 0))], [((0, FIRST), [0], 0), value]):
                    self.assertIs(is_chooser_paper(reader, told), play_oracles.is_chooser_paper(reader, told), told)
                    self.assertIs(is_foe_paper(reader, told), play_oracles.is_foe_paper(reader, told), told)

    def test_without_too_many(self):
        for reader in (full_reader(), Reader(3, 7, WAYS_401), Reader(2, 8, WAYS_400)):
            for judge in JUDGES:
                for value in (None, [], [((0, FIRST), [0] * reader.letters, 0)], [((0, FIRST), 0, (0, 0))]):
                    self.gives(False, judge, reader, value)

    def test_wrong(self):
        for judge in JUDGES:
            self.refuses_junk(InvalidReader, judge, None, None, at=0, fine=ONE)
