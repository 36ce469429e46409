"""Games against one, two or three rivals: turns, boards, who wins, and papers."""

import itertools
import random

from tests import board_oracles, play_oracles
from tests.limits import RIVALS_1_600, RIVALS_1_601, RIVALS_2_600, RIVALS_2_601, RIVALS_3_600, RIVALS_3_601, reader_at
from tests.play_oracles import GUESS, LONE, ONCE, PARTS, doubtful_readers, small_readers
from tests.tools import (PromiseCase, clean_reader, full_reader, junk, last_reader, round_reader, slip_reader,
                         some_readers, step_reader)
from tworivals.boards import Board
from tworivals.errors import (InvalidLetter, InvalidMany, InvalidReader, InvalidState, InvalidWay, InvalidWays)
from tworivals.measures import win_paper
from tworivals.plays import has_chooser
from tworivals.readers import Reader, renamed
from tworivals.rivals import is_rivals_paper, rival_board, rivals_paper, turned, wins_rivals

ONE = [Reader(1, 1, [(0, 0, 0, 0)])]
NEED_BOARD = (rival_board, wins_rivals, rivals_paper)
WRONG_MANY = (0, 4, -1, True, False, 10 ** 29, None, "1", [1], (1,), b"1")


def fits_board(reader, many):
    return play_oracles.rival_board(reader, many)[0] is not None


class TestTurned(PromiseCase):

    def test_last(self):
        last = last_reader()
        self.gives(((1, (0, 1), 1), 1), turned, last, (0, (0, 1), 0), 1, 3, [2, 7])
        self.gives(((0, (0, 0), 0), 2), turned, last, (0, (0, 0), 0), 1, 2, [2, 2])
        self.gives(((0, (0, 1), 0), 2), turned, last, (0, (0, 0), 0), 1, 2, (2, 3))
        self.gives(((0, (0,), 0), 0), turned, last, (0, (0,), 0), 0, 0, [0])
        self.gives(((1, (0,), 0), 1), turned, last, (0, (0,), 0), 0, 1, [0])
        self.gives(((1, (1,), 0), 2), turned, last, (0, (0,), 0), 0, 1, [1])

    def test_flags(self):
        # One room; way 0 is clean, way 1 slips.
        reader = Reader(1, 1, [(0, 0, 0, 0), (0, 0, 0, 1)])
        for many in (1, 2, 3):
            for flag in range(many):
                for slips in itertools.product((0, 1), repeat=many + 1):
                    first, rivals = slips[0], slips[1:]
                    behind = flag
                    while behind < many and rivals[behind]:
                        behind += 1
                    whole = behind == many
                    state = (0, (0,) * many, 0 if whole else behind)
                    self.gives((state, 2 if whole else first), turned, reader, (0, (0,) * many, flag), 0, first,
                               list(rivals))

    def test_nobody_is_passed_behind_a_whole_round(self):
        # The first rival slips, too, but the round was whole: it is waited for again.
        reader = Reader(1, 1, [(0, 0, 0, 0), (0, 0, 0, 1)])
        self.gives(((0, (0, 0, 0), 0), 2), turned, reader, (0, (0, 0, 0), 2), 0, 0, [1, 1, 1])
        self.gives(((0, (0, 0, 0), 0), 2), turned, reader, (0, (0, 0, 0), 1), 0, 1, [1, 1, 1])
        self.gives(((0, (0, 0, 0), 1), 0), turned, reader, (0, (0, 0, 0), 1), 0, 0, [1, 0, 1])
        self.gives(((0, (0, 0, 0), 2), 1), turned, reader, (0, (0, 0, 0), 1), 0, 1, [0, 1, 0])

    def test_by_words(self):
        source = random.Random(1)
        for reader in some_readers(150) + [full_reader()]:
            many = source.randint(1, 3)
            rooms = tuple(source.randrange(reader.rooms) for _ in range(many))
            state = (source.randrange(reader.rooms), rooms, source.randrange(many))
            letter = source.randrange(reader.letters)
            way = source.choice(reader.ways_by(state[0], letter))
            ways = [source.choice(reader.ways_by(room, letter)) for room in rooms]
            told = play_oracles.turn(reader, state, reader.way(way), [reader.way(one) for one in ways])
            self.gives(told, turned, reader, state, letter, way, ways)

    def test_wrong(self):
        last, state = last_reader(), (0, (0, 1), 0)
        self.refuses_junk(InvalidReader, turned, None, None, None, None, None, at=0, fine=ONE)
        self.refuses_junk(InvalidState, turned, last, None, None, None, None, at=1)
        for wrong in ((2, (0, 1), 0), (0, (0, 2), 0), (0, (0, -1), 0), (0, (), 0), (0, (0, 0, 0, 0), 0), (0, (0, 1), 2),
                      (0, (0, 1), -1), (0, [0, 1], 0), [0, (0, 1), 0], (0, (0, 1)), (0, (0, 1), 0, 0), (True, (0, 1), 0),
                      (0, (0, True), 0), (0, (0, 1), False), (0, (0,), 1), (0, (0, 0, 0), 3), (-1, (0, 1), 0), (0, 0, 0),
                      (None, (0, 1), 0), (0, (0, None), 0), (0, (0, 1), None), (0, {0: 0}, 0), ([0], (0,), 0)):
            self.refuses(InvalidState, wrong, turned, last, wrong, None, None, None)
        self.refuses_junk(InvalidLetter, turned, last, state, None, None, None, at=2)
        for letter in (2, -1, True, False):
            self.refuses(InvalidLetter, letter, turned, last, state, letter, None, None)
        self.refuses_junk(InvalidWay, turned, last, state, 1, None, None, at=3)
        for way in (0, 1, 4, 6, 7, 8, -1, True, 10 ** 29):
            self.refuses(InvalidWay, way, turned, last, state, 1, way, None)
        self.refuses_junk(InvalidWays, turned, last, state, 1, 2, None, at=4)
        for ways in ([2], [2, 7, 7], [7, 2], [2, 2], [0, 7], [2, 8], [2, -1], [2, True], [True, 7], [2, "7"], {2: 2, 7: 7},
                     {2, 7}, [2, None], [[2], 7], [], "27"):
            self.refuses(InvalidWays, ways, turned, last, state, 1, 2, ways)


class TestRivalBoard(PromiseCase):

    def test_one_slip(self):
        names = [("first", (0, (0,), 0), 0), ("foe", (0, (0,), 0), 0), ("foe", (0, (0,), 0), 2),
                 ("rivals", (0, (0,), 0), 1, 0)]
        names = sorted(names)
        self.assertEqual([name[0] for name in names], ["first", "foe", "foe", "rivals"])
        self.gives((Board([0, 1, 1, 1], [0, 0, 2, 0], [[3], [0], [0], [2]]), names), rival_board, slip_reader(), 1)

    def test_by_words(self):
        most = 0
        for reader in small_readers(60, 31) + doubtful_readers(30, 31) + [round_reader(12, [2]), step_reader(1)]:
            for many in (1, 2, 3):
                board, names = play_oracles.rival_board(reader, many)
                if board is None:
                    self.too_many("places", 600, rival_board, reader, many)
                    break
                self.gives((board, names), rival_board, reader, many)
                most = max(most, board.many)
        self.assertGreater(most, 400)

    def test_600_places(self):
        for many, limit in ((1, RIVALS_1_600), (2, RIVALS_2_600), (3, RIVALS_3_600)):
            reader = reader_at(limit)
            told = self.ask(rival_board, reader, many)
            self.assertEqual((told[0].many, len(told[1])), (600, 600))
            self.assertEqual(told, play_oracles.rival_board(reader, many))
            board, names = told
            winner = board_oracles.winners_by_lifting(board)[names.index(("foe", (0, (0,) * many, 0), 0))]
            self.gives(winner == 0, wins_rivals, reader, many)
            paper = self.ask(rivals_paper, reader, many, exact=False)
            self.assertEqual(paper[0], winner)
            self.gives(True, is_rivals_paper, reader, many, paper)

    def test_601_places(self):
        for many, limit in ((1, RIVALS_1_601), (2, RIVALS_2_601), (3, RIVALS_3_601)):
            reader = reader_at(limit)
            self.assertEqual(len(play_oracles.rival_board(reader, many)[1]), 601)
            for function in NEED_BOARD:
                self.too_many("places", 600, function, reader, many)
            for value in (None, [], (0, None), (0, ([0], [], [0])), (1, ([0], [(0, 0)], [(0, 0)]))):
                self.too_many("places", 600, is_rivals_paper, reader, many, value)

    def test_many_ways(self):
        for many in (1, 2, 3):
            for function in NEED_BOARD:
                self.too_many("places", 600, function, full_reader(), many)
            self.too_many("places", 600, is_rivals_paper, full_reader(), many, 0)

    def test_told_lists_are_new(self):
        rival_board(last_reader(), 1)[1].pop()
        self.gives(play_oracles.rival_board(last_reader(), 1), rival_board, last_reader(), 1)

    def test_wrong(self):
        for function in NEED_BOARD:
            self.refuses_junk(InvalidReader, function, None, None, at=0, fine=ONE)
            self.refuses_junk(InvalidMany, function, full_reader(), None, at=1)
            for many in WRONG_MANY:
                self.refuses(InvalidMany, many, function, full_reader(), many)


class TestWinsRivals(PromiseCase):

    def test_examples(self):
        for many in (1, 2, 3):
            self.gives(True, wins_rivals, last_reader(), many)
            self.gives(many == 1, wins_rivals, Reader(*LONE), many)
            for told in (ONCE, PARTS, GUESS):
                if fits_board(Reader(*told), many):
                    self.gives(False, wins_rivals, Reader(*told), many)

    def test_one_room_and_none_to_choose(self):
        for many in (1, 2, 3):
            for reader in (slip_reader(), clean_reader(), slip_reader(3), clean_reader(2), round_reader(3, [1]),
                           Reader(1, 1, [(0, 0, 0, 0), (0, 0, 0, 1)])):
                self.gives(True, wins_rivals, reader, many)

    def test_as_choosers(self):
        found = {(told, one): 0 for told in (True, False) for one in (True, False)}
        for reader in small_readers(80, 32) + doubtful_readers(150, 32):
            if play_oracles.letter_board(reader)[0] is None:
                continue
            told = has_chooser(reader)
            against = [wins_rivals(reader, many) for many in (1, 2, 3) if fits_board(reader, many)]
            for many, won in enumerate(against, 1):
                self.gives(won, wins_rivals, reader, many)
            self.assertEqual(against[1:], [told] * len(against[1:]))
            self.assertEqual(against, sorted(against, reverse=True))
            if told:
                self.assertNotIn(False, against)
            if against:
                found[(told, against[0])] += 1
        self.assertGreater(found[(True, True)], 50)
        self.assertGreater(found[(False, False)], 50)
        self.assertGreater(found[(False, True)], 3)

    def test_by_lifting(self):
        found = {True: 0, False: 0}
        for reader in small_readers(40, 33, sizes=((1, 2), (2, 2), (1, 3))) + doubtful_readers(40, 33):
            for many in (1, 2, 3):
                board, names = play_oracles.rival_board(reader, many)
                if board is not None:
                    first = names.index(("foe", (0, (0,) * many, 0), 0))
                    won = board_oracles.winners_by_lifting(board)[first] == 0
                    self.gives(won, wins_rivals, reader, many)
                    found[won] += 1
        self.assertGreater(min(found.values()), 20)

    def test_renamed(self):
        source = random.Random(3)
        for reader in doubtful_readers(60, 34):
            order = [0] + source.sample(range(1, reader.rooms), reader.rooms - 1)
            exchanged = Reader(reader.letters, reader.rooms, [(room, reader.letters - 1 - letter, to, slip)
                                                              for room, letter, to, slip in reader.ways()])
            for many in (1, 2):
                if fits_board(reader, many):
                    won = wins_rivals(reader, many)
                    self.gives(won, wins_rivals, renamed(reader, order), many)
                    self.gives(won, wins_rivals, exchanged, many)


class TestPapers(PromiseCase):

    def test_told(self):
        found = {0: 0, 1: 0}
        for reader in small_readers(40, 35) + doubtful_readers(60, 35):
            for many in (1, 2, 3):
                board, names = play_oracles.rival_board(reader, many)
                if board is None:
                    continue
                paper = self.ask(rivals_paper, reader, many, exact=False)
                first = names.index(("foe", (0, (0,) * many, 0), 0))
                self.assertIs(type(paper), tuple)
                self.assertEqual(paper[0], 0 if wins_rivals(reader, many) else 1)
                self.assertTrue(board_oracles.is_win_paper(board, *paper))
                self.assertIn(first, paper[1][0])
                self.gives(True, is_rivals_paper, reader, many, paper)
                self.gives(False, is_rivals_paper, reader, many, (1 - paper[0], paper[1]))
                found[paper[0]] += 1
        self.assertGreater(min(found.values()), 30)

    def test_examples(self):
        once, last = Reader(*ONCE), last_reader()
        self.gives(True, is_rivals_paper, last, 2, rivals_paper(last, 2))
        self.assertEqual(rivals_paper(once, 1)[0], 1)
        self.gives(False, is_rivals_paper, once, 1, (0, rivals_paper(once, 1)[1]))
        self.gives(False, is_rivals_paper, last, 1, rivals_paper(last, 2))
        self.gives(False, is_rivals_paper, last, 3, rivals_paper(last, 2))

    def changed(self, source, board, hand, paper):
        lot, plan, numbers = paper
        yield from [(hand, paper), [hand, paper], (hand,), (hand, paper, 0), (1 - hand, paper), (bool(hand), paper), paper,
                    (None, paper), (2, paper), (-1, paper), (hand, list(paper)), (hand, None), (hand, (lot, plan)), None,
                    (hand, (tuple(lot), tuple(plan), tuple(numbers))), (hand, (lot, plan, numbers[:-1])), 0, (), []]
        for _ in range(12):
            at = source.randrange(len(lot))
            place = lot[at]
            fewer = [item for item in plan if item[0] != place]
            yield hand, (lot[:at] + lot[at + 1:], fewer, numbers[:at] + numbers[at + 1:])
            yield hand, (lot, fewer, numbers)
            for number in (0, 1, 3, (0, 0), (1, 0), (0, 3), True, None):
                yield hand, (lot, plan, numbers[:at] + [number] + numbers[at + 1:])
            if len(fewer) < len(plan):
                yield hand, (lot, sorted(fewer + [(place, source.choice(board.moves()[place]))]), numbers)

    def test_by_definition(self):
        source = random.Random(4)
        found = {True: 0, False: 0}
        for reader in small_readers(15, 36, sizes=((1, 2), (2, 2))) + doubtful_readers(15, 36):
            for many in (1, 2):
                board, names = play_oracles.rival_board(reader, many)
                if board is None or board.many > 150:
                    continue
                first = names.index(("foe", (0, (0,) * many, 0), 0))
                for hand in (0, 1):
                    paper = win_paper(board, hand)
                    for value in [] if paper is None else self.changed(source, board, hand, paper):
                        fits = type(value) is tuple and len(value) == 2 and type(value[0]) is int \
                            and value[0] in (0, 1) and board_oracles.is_win_paper(board, *value) and first in value[1][0]
                        self.assertIs(is_rivals_paper(reader, many, value), fits, (reader.ways(), many, value))
                        found[fits] += 1
        self.assertGreater(min(found.values()), 50)

    def test_the_first_place_has_to_be_in_the_lot(self):
        # Behind a slip of all all goes on as before: what lies behind may do without the first place.
        board, names = rival_board(slip_reader(), 1)
        first = names.index(("foe", (0, (0,), 0), 0))
        rest = [place for place in range(board.many) if place != first]
        plan = [(place, move) for place, move in win_paper(board, 0)[1]]
        self.assertTrue(board_oracles.is_win_paper(board, 0, (rest, plan, [0] * len(rest))))
        self.gives(False, is_rivals_paper, slip_reader(), 1, (0, (rest, plan, [0] * len(rest))))
        self.gives(True, is_rivals_paper, slip_reader(), 1, (0, (sorted(rest + [first]), plan, [0] * board.many)))

    def test_any_value(self):
        for value in junk():
            for told in (value, (0, value), (value, ([0], [], [0])), (0, (value, [], [0])), (0, ([0], value, [0])),
                         (0, ([0], [], value)), (1, value)):
                self.assertIs(is_rivals_paper(ONE[0], 1, told), False, told)

    def test_wrong(self):
        self.refuses_junk(InvalidReader, is_rivals_paper, None, None, None, at=0, fine=ONE)
        self.refuses_junk(InvalidMany, is_rivals_paper, full_reader(), None, None, at=1)
        for many in WRONG_MANY:
            self.refuses(InvalidMany, many, is_rivals_paper, full_reader(), many, None)
