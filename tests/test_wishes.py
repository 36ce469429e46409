"""Wishes, their boards with break points, their stand-ins, plays, plans, and who wins."""

import random

from tests import board_oracles, oracles, play_oracles, wish_oracles
from tests.play_oracles import GUESS, doubtful_readers, small_readers
from tests.tools import (WAYS_400, WAYS_401, PromiseCase, changed, clean_reader, full_reader, junk, last_reader,
                         round_reader, slip_reader, some_readers)
from tests.wish_limits import (STAND_IN_600_LOST, STAND_IN_600_WON, STAND_IN_601_LOST, STAND_IN_601_WON, WISH_600,
                               WISH_601, game_at)
from tests.wish_oracles import some_games, some_wish
from tworivals.boards import Board
from tworivals.choosers import chooser_of
from tworivals.errors import (InvalidHand, InvalidMoves, InvalidOwners, InvalidPlaces, InvalidPlay, InvalidReader,
                              InvalidWish)
from tworivals.plays import has_chooser
from tworivals.readers import Reader
from tworivals.rows import normal_row
from tworivals.runs import lets_by
from tworivals.wishes import (Wish, is_stand_in_plan, is_wish_plan, is_wish_play, row_of_play, stand_in_board,
                              stand_in_plan, stand_in_winner, wish_board, wish_plan, wish_winner)

FIRST = ((0,), (0,))
ONE = [Reader(1, 1, [(0, 0, 0, 0)])]
ONE_WISH = [Wish(1, [0], [[(0, 0)]])]
BOTH = [[(0, 0), (1, 0)]]
ALL_MOVES = [(letter, to) for letter in range(4) for to in range(24)]
OF_WISH = (wish_board, wish_winner, wish_plan, is_wish_plan)
OF_STAND_IN = (stand_in_board, stand_in_winner, stand_in_plan, is_stand_in_plan)
MORE = {2: (), 3: (0,), 4: (0, [])}


def parameters_of(function):
    """Of a function how many parameters it has, and what may be passed behind the reader and the wish."""
    many = {wish_plan: 3, stand_in_plan: 3, is_wish_plan: 4, is_stand_in_plan: 4}.get(function, 2)
    return MORE[many]


class TestWish(PromiseCase):

    def test_parts(self):
        for owners, moves in (([0, 1], [[(0, 1)], [(0, 0), (3, 1)]]), ((0, 1), (((0, 1),), ((0, 0), (3, 1)))),
                              ([0, 1], (((0, 1),), [(0, 0), (3, 1)]))):
            wish = self.ask(Wish, 2, owners, moves)
            self.exactly(wish.many, 2)
            self.exactly(wish.owners(), [0, 1])
            self.exactly(wish.moves(), [[(0, 1)], [(0, 0), (3, 1)]])

    def test_what_it_was_made_of_may_change(self):
        owners, moves = [0, 1], [[(0, 1)], [(1, 0)]]
        wish = Wish(2, owners, moves)
        owners[0] = 1
        moves[0].append((3, 1))
        moves[1][0] = (0, 0)
        moves.pop()
        self.exactly(wish.owners(), [0, 1])
        self.exactly(wish.moves(), [[(0, 1)], [(1, 0)]])

    def test_told_lists_are_new(self):
        wish = Wish(1, [0], BOTH)
        wish.owners()[0] = 1
        wish.moves()[0].pop()
        wish.moves().pop()
        self.assertEqual(wish, Wish(1, [0], BOTH))
        self.assertIsNot(wish.moves()[0], wish.moves()[0])

    def test_equal(self):
        wish = Wish(2, [0, 1], [[(0, 1)], [(1, 0)]])
        self.assertIs(wish == Wish(2, (0, 1), [((0, 1),), [(1, 0)]]), True)
        self.assertIs(wish != Wish(2, (0, 1), [((0, 1),), [(1, 0)]]), False)
        for other in (Wish(2, [1, 1], [[(0, 1)], [(1, 0)]]), Wish(2, [0, 1], [[(0, 1)], [(1, 1)]]),
                      Wish(2, [0, 1], [[(0, 1)], [(0, 0)]]), Wish(1, [0], [[(0, 0)]])):
            self.assertIs(wish == other, False)
            self.assertIs(wish != other, True)
        for value in junk():
            self.assertIs(wish == value, False)

    def test_at_the_bounds(self):
        wish = self.ask(Wish, 24, [1] * 24, [ALL_MOVES[at:at + 24] for at in range(24)])
        self.exactly(wish.moves()[23], ALL_MOVES[23:47])
        self.exactly(wish.many, 24)
        self.refuses(InvalidPlaces, 25, Wish, 25, [1] * 25, [[(0, 0)]] * 25)
        self.refuses(InvalidMoves, [ALL_MOVES[:25]] * 24, Wish, 24, [1] * 24, [ALL_MOVES[:25]] * 24)
        self.exactly(Wish(1, [1], [[(3, 0)]]).moves(), [[(3, 0)]])

    def test_wrong(self):
        self.refuses_junk(InvalidPlaces, Wish, None, None, None, at=0)
        for places in (0, 25, -1, True, 10 ** 29, "1"):
            self.refuses(InvalidPlaces, places, Wish, places, None, None)
        self.refuses_junk(InvalidOwners, Wish, 1, None, None, at=1, fine=[[0], (0,)])
        for owners in ([0], [0, 1, 0], [0, 2], [0, -1], [0, True], [False, 0], [0, None], [], ["0", "1"], {0: 0, 1: 1}):
            self.refuses(InvalidOwners, owners, Wish, 2, owners, None)
        self.refuses_junk(InvalidMoves, Wish, 1, [0], None, at=2)
        good = [[(0, 1)], [(0, 0), (1, 1)]]
        self.ask(Wish, 2, [0, 1], good)
        for moves in (good[:1], good + good[:1], [[], [(0, 0)]], [[(0, 1)], [(1, 1), (0, 0)]], [[(0, 1)], [(0, 0)] * 2],
                      [[(4, 0)], [(0, 0)]], [[(-1, 0)], [(0, 0)]], [[(0, 2)], [(0, 0)]], [[(0, -1)], [(0, 0)]],
                      [[(True, 0)], [(0, 0)]], [[(0, True)], [(0, 0)]], [[[0, 1]], [(0, 0)]], [[(0, 1, 0)], [(0, 0)]],
                      [[(0,)], [(0, 0)]], [[None], [(0, 0)]], [(0, 1), (0, 0)], [[(0, "1")], [(0, 0)]],
                      [[(0, 0), (0, None)], [(0, 0)]], [{(0, 0): 1}, [(0, 0)]]):
            self.refuses(InvalidMoves, moves, Wish, 2, [0, 1], moves)


class TestBoards(PromiseCase):

    def test_one_place(self):
        names = [(0, FIRST, 0), (0, ((0, 1), (0,)), 0), (0, ((0, 1), (0, 1)), 1), (0, ((0, 1), (1,)), 0)]
        moves = [[1, 2], [1, 2], [1, 3], [2, 3]]
        told = (Board([0] * 4, [0, 0, 1, 0], moves), names)
        # The standing goes on by 1 from the first one with a break.
        self.assertEqual(oracles.going_on(last_reader(), FIRST, 1), (((0, 1), (0, 1)), True))
        self.gives(told, wish_board, last_reader(), Wish(1, [0], BOTH))
        self.gives((Board([1] * 4, [0, 0, 1, 0], moves), names), wish_board, last_reader(), Wish(1, [1], BOTH))
        names = [(0, 0, -1, 0), (0, 0, -1, 1), (0, 0, 0, 0), (0, 0, 1, 0)]
        for owner in (0, 1):
            board = Board([owner, owner, 0, 0], [0, 1, 0, 0], [[2, 3], [2, 3], [0], [1]])
            reader = Reader(2, 1, [(0, 0, 0, 0), (0, 1, 0, 1)])
            self.gives((board, names), stand_in_board, reader, Wish(1, [owner], BOTH))

    def test_one_letter_to_several_places(self):
        # Two moves by one letter; a break is kept in mind for one move.
        wish = Wish(2, [1, 0], [[(0, 0), (0, 1)], [(0, 1)]])
        names = [(0, FIRST, 0), (0, FIRST, 1), (1, FIRST, 1)]
        self.gives((Board([1, 1, 0], [0, 1, 1], [[1, 2], [1, 2], [2]]), names), wish_board, slip_reader(), wish)
        names = [(0, FIRST, 0), (1, FIRST, 0)]
        self.gives((Board([1, 0], [0, 0], [[0, 1], [1]]), names), wish_board, clean_reader(), wish)

    def test_place_by_place(self):
        most = 0
        for reader, wish in some_games(80, 3) + some_games(0, 4, some_readers(80), places=6):
            for function, rule in ((wish_board, wish_oracles.wish_board), (stand_in_board, wish_oracles.stand_in_board)):
                board, names = rule(reader, wish)
                if board is None:
                    self.too_many("places", 600, function, reader, wish)
                    continue
                self.gives((board, names), function, reader, wish)
                most = max(most, board.many)
        self.assertGreater(most, 200)

    def test_fewer_letters_than_the_reader_has(self):
        for letters in (1, 2, 3, 4):
            wish = Wish(1, [0], [[(letters - 1, 0)]])
            for reader in (slip_reader(letters), clean_reader(4), full_reader()):
                if len(oracles.coming_standings(reader)) <= 400:
                    self.gives(wish_oracles.wish_board(reader, wish), wish_board, reader, wish)
                self.gives(wish_oracles.stand_in_board(reader, wish), stand_in_board, reader, wish)

    def test_600_places(self):
        for limit, function, rule in ((WISH_600, wish_board, wish_oracles.wish_board),
                                      (STAND_IN_600_WON, stand_in_board, wish_oracles.stand_in_board),
                                      (STAND_IN_600_LOST, stand_in_board, wish_oracles.stand_in_board)):
            reader, wish = game_at(limit)
            told = rule(reader, wish)
            self.assertEqual(told[0].many, 600)
            self.gives(told, function, reader, wish)
        for limits, functions, rule in (([WISH_601], OF_WISH, wish_oracles.wish_board),
                                        ([STAND_IN_601_WON, STAND_IN_601_LOST], OF_STAND_IN,
                                         wish_oracles.stand_in_board)):
            for limit in limits:
                reader, wish = game_at(limit)
                self.assertEqual(len(rule(reader, wish)[1]), 601)
                for function in functions:
                    self.too_many("places", 600, function, reader, wish, *parameters_of(function))

    def test_more_standings_come_first(self):
        wish = Wish(1, [0], [[(0, 0)]])
        for reader in (Reader(3, 7, WAYS_401), full_reader()):
            for function in OF_WISH:
                self.too_many("standings", 400, function, reader, wish, *parameters_of(function))
            self.gives(wish_oracles.stand_in_board(reader, wish), stand_in_board, reader, wish)
        reader = Reader(2, 8, WAYS_400)
        self.gives(wish_oracles.wish_board(reader, wish), wish_board, reader, wish)
        wide = Wish(24, [0] * 24, [[(0, at), (1, (at + 1) % 24)] for at in range(23)] + [[(0, 0), (1, 23)]])
        self.too_many("places", 600, wish_board, reader, wide)

    def test_wrong(self):
        for function in OF_WISH + OF_STAND_IN:
            more = parameters_of(function)
            self.refuses_junk(InvalidReader, function, None, None, *[None for _ in more], at=0, fine=ONE)
            self.refuses_junk(InvalidWish, function, last_reader(), None, *[None for _ in more], at=1, fine=ONE_WISH)
            for letters in (1, 2, 3):
                for wish in (Wish(1, [0], [[(letters, 0)]]), Wish(2, [0, 1], [[(0, 0)], [(0, 1), (letters, 0)]])):
                    self.refuses(InvalidWish, wish, function, slip_reader(letters), wish, *[None for _ in more])
            # The hand is refused ahead of too many standings, and of too many places.
            if more:
                for hand in (2, -1, None, True, False, "0", [0], 10 ** 29):
                    self.refuses(InvalidHand, hand, function, full_reader(), ONE_WISH[0], hand, *[None for _ in more[1:]])
                    for limit in (WISH_601, STAND_IN_601_LOST):
                        self.refuses(InvalidHand, hand, function, *game_at(limit), hand, *[None for _ in more[1:]])


class TestWinners(PromiseCase):

    def test_one_place(self):
        for owner in (0, 1):
            self.gives(owner, wish_winner, last_reader(), Wish(1, [owner], BOTH))
            self.gives(owner, stand_in_winner, last_reader(), Wish(1, [owner], BOTH))
            self.gives(1, wish_winner, slip_reader(), Wish(1, [owner], [[(0, 0)]]))
            self.gives(0, wish_winner, clean_reader(), Wish(1, [owner], [[(0, 0)]]))
            self.gives(1, stand_in_winner, slip_reader(), Wish(1, [owner], [[(0, 0)]]))
            self.gives(0, stand_in_winner, clean_reader(), Wish(1, [owner], [[(0, 0)]]))

    def test_where_they_part(self):
        # Whatever comes is let by, but the way must be taken ahead of what comes next.
        guess = Reader(*GUESS)
        self.gives(0, wish_winner, guess, Wish(1, [1], BOTH))
        self.gives(1, stand_in_winner, guess, Wish(1, [1], BOTH))
        self.gives(0, stand_in_winner, guess, Wish(1, [0], BOTH))

    def test_by_lifting(self):
        found = {}
        doubtful = doubtful_readers(100, 6)
        free = [(reader, Wish(1, [1], [[(letter, 0) for letter in range(reader.letters)]])) for reader in doubtful]
        for reader, wish in some_games(150, 5) + some_games(0, 6, doubtful) + free:
            boards = wish_oracles.wish_board(reader, wish), wish_oracles.stand_in_board(reader, wish)
            if boards[0][0] is None or boards[1][0] is None:
                continue
            first = wish_oracles.winner(boards[0], wish_oracles.PLAIN_FIRST)
            second = wish_oracles.winner(boards[1], wish_oracles.STAND_IN_FIRST)
            self.gives(first, wish_winner, reader, wish)
            self.gives(second, stand_in_winner, reader, wish)
            found[(first, second)] = found.get((first, second), 0) + 1
            # Who wins the stand-in wins the wish; with a chooser the other way round, too.
            self.assertFalse(second == 0 and first == 1)
            if play_oracles.letter_board(reader)[0] is not None and has_chooser(reader):
                self.assertEqual(first, second)
        self.assertEqual(sorted(found), [(0, 0), (0, 1), (1, 1)])
        self.assertGreater(min(found.values()), 5)

    def test_only_one_play(self):
        # Without choices of either hand the row is told, and the wish is whether it is let by.
        source = random.Random(8)
        for reader in some_readers(60):
            moves = [[(source.randrange(reader.letters), source.randrange(4))] for _ in range(4)]
            wish = Wish(4, [source.randrange(2) for _ in range(4)], moves)
            place, gone, letters = 0, [], []
            while place not in gone:
                gone.append(place)
                letters.append(moves[place][0][0])
                place = moves[place][0][1]
            at = gone.index(place)
            row = (tuple(letters[:at]), tuple(letters[at:]))
            if wish_oracles.wish_board(reader, wish)[0] is not None:
                self.gives(0 if lets_by(reader, row) else 1, wish_winner, reader, wish)
            self.gives(0 if lets_by(reader, row) else 1, stand_in_winner, reader, wish)

    def test_at_the_limits(self):
        for limit, winner in ((STAND_IN_600_WON, 0), (STAND_IN_600_LOST, 1)):
            self.gives(winner, stand_in_winner, *game_at(limit))
        reader, wish = game_at(WISH_600)
        self.gives(wish_oracles.winner(wish_oracles.wish_board(reader, wish), wish_oracles.PLAIN_FIRST), wish_winner,
                   reader, wish)


class TestPlays(PromiseCase):

    def test_one_place(self):
        wish = Wish(1, [0], BOTH)
        for play in (([], [(1, 0)]), ((), ((1, 0),)), ([(0, 0)], [(1, 0), (0, 0)]), ([(0, 0)] * 40, [(1, 0)] * 40)):
            self.gives(True, is_wish_play, wish, play)
        for play in (([], []), ([(1, 0)], []), ([(0, 0)] * 41, [(1, 0)]), ([], [(1, 0)] * 41), [[], [(1, 0)]],
                     ([], [(2, 0)]), ([], [(0, 1)]), ([], [(False, 0)]), ([], [(0, False)]), ([], [[0, 0]]),
                     ([], [(0, 0)], []), ([(0, 0)],), ([], [0]), ([], [(0, 0, 0)]), ({}, [(0, 0)]), ("", [(0, 0)])):
            self.gives(False, is_wish_play, wish, play)

    def test_places(self):
        wish = Wish(3, [0, 1, 0], [[(0, 1), (0, 2)], [(1, 1), (2, 0)], [(3, 1)]])
        for play in (([(0, 1)], [(1, 1)]), ([], [(0, 1), (2, 0)]), ([(0, 2), (3, 1)], [(2, 0), (0, 1)]),
                     ([(0, 1), (2, 0)], [(0, 2), (3, 1), (2, 0)])):
            self.gives(True, is_wish_play, wish, play)
        for play in (([], [(0, 1)]), ([], [(1, 1)]), ([(0, 1)], [(2, 0)]), ([(0, 2)], [(2, 0)]), ([(3, 1)], [(1, 1)]),
                     ([(0, 2), (1, 1)], [(2, 0), (0, 1)])):
            self.gives(False, is_wish_play, wish, play)

    def some_play(self, source, wish):
        """A told play, found by going about."""
        gone, place, places = [], 0, []
        while place not in places or source.randrange(3):
            places.append(place)
            gone.append(source.choice(wish.moves()[place]))
            place = gone[-1][1]
        at = source.choice([at for at, one in enumerate(places) if one == place])
        return gone[:at], gone[at:]

    def test_by_definition(self):
        source = random.Random(9)
        found = {True: 0, False: 0}
        for _ in range(60):
            wish = some_wish(source, source.randint(1, 4), 5)
            play = self.some_play(source, wish)
            if max(len(play[0]), len(play[1])) > 40:
                continue
            self.assertTrue(wish_oracles.is_wish_play(wish, play))
            for value in [play, *changed(play)]:
                fits = wish_oracles.is_wish_play(wish, value)
                self.assertIs(is_wish_play(wish, value), fits, (wish.moves(), value))
                found[fits] += 1
                if not fits:
                    with self.assertRaises(InvalidPlay):
                        row_of_play(wish, value)
            row = wish_oracles.row_of(play)
            self.gives(normal_row(row), row_of_play, wish, play)
        self.assertGreater(min(found.values()), 100)

    def test_rows(self):
        wish = Wish(1, [0], BOTH)
        self.gives(((), (1, 0)), row_of_play, wish, ([(1, 0), (0, 0)], [(1, 0), (0, 0)]))
        self.gives(((0, 0, 0), (1,)), row_of_play, wish, ([(0, 0)] * 3, [(1, 0)] * 40))
        self.gives(((0,) * 40, (1,)), row_of_play, wish, (((0, 0),) * 40, ((1, 0),)))
        self.gives(((), (0,) * 39 + (1,)), row_of_play, wish, ([], [(0, 0)] * 39 + [(1, 0)]))

    def test_any_value(self):
        wish = Wish(1, [0], BOTH)
        for value in junk():
            for told in (value, ([], value), (value, [(0, 0)]), ([], [value]), ([value], [(0, 0)]), ([], [(value, 0)]),
                         ([], [(0, value)])):
                self.assertIs(is_wish_play(wish, told), wish_oracles.is_wish_play(wish, told), told)

    def test_wrong(self):
        for function in (is_wish_play, row_of_play):
            self.refuses_junk(InvalidWish, function, None, None, at=0, fine=ONE_WISH)
        self.refuses_junk(InvalidPlay, row_of_play, ONE_WISH[0], None, at=1)
        for play in (([], []), ([], [(1, 0)]), ([], [(0, 0)] * 41), [[], [(0, 0)]], ([(0, 0)] * 41, [(0, 0)])):
            self.refuses(InvalidPlay, play, row_of_play, ONE_WISH[0], play)


class TestPlans(PromiseCase):

    def checked(self, reader, wish):
        """The told plans are such, and whatever is changed of them is judged as it is by the words."""
        found = {True: 0, False: 0}
        for board_of, told_of, judge in ((wish_oracles.wish_board, wish_plan, is_wish_plan),
                                         (wish_oracles.stand_in_board, stand_in_plan, is_stand_in_plan)):
            told = board_of(reader, wish)
            if told[0] is None:
                continue
            for hand in (0, 1):
                plan = self.ask(told_of, reader, wish, hand, exact=False)
                self.assertIs(type(plan), list)
                self.assertTrue(wish_oracles.is_named_plan(told, hand, plan))
                self.gives(True, judge, reader, wish, hand, plan)
                if told[0].many > 24:
                    continue
                for value in changed(plan):
                    fits = wish_oracles.is_named_plan(told, hand, value)
                    self.assertIs(judge(reader, wish, hand, value), fits, (value, plan))
                    found[fits] += 1
        return found

    def test_told_plans(self):
        yes = no = 0
        for reader, wish in some_games(25, 12) + some_games(0, 13, doubtful_readers(25, 13), places=2):
            found = self.checked(reader, wish)
            yes, no = yes + found[True], no + found[False]
        self.assertGreater(yes, 40)
        self.assertGreater(no, 2000)

    def test_all_moves(self):
        # Each plan of moves of hand 0, told by names, is one exactly if it wins on all places from which it can.
        wish = Wish(2, [0, 0], [[(0, 1), (1, 1)], [(0, 0), (1, 1)]])
        found = {True: 0, False: 0}
        for reader in (last_reader(), round_reader(1), Reader(2, 1, [(0, 0, 0, 0), (0, 1, 0, 1)])):
            if reader.letters < 2:
                continue
            told = wish_oracles.wish_board(reader, wish)
            for plan in board_oracles.all_plans(told[0], 0):
                named = [(told[1][place], told[1][move]) for place, move in plan]
                fits = wish_oracles.is_named_plan(told, 0, named)
                self.gives(fits, is_wish_plan, reader, wish, 0, named)
                self.gives(fits, is_wish_plan, reader, wish, 0, tuple(named))
                found[fits] += 1
        self.assertGreater(min(found.values()), 3)

    def test_where_the_hand_wins_nowhere(self):
        for value, fits in (([], True), ((), True), ([((0, FIRST, 0), (0, FIRST, 0))], False), (None, False), ({}, False)):
            self.gives(fits, is_wish_plan, clean_reader(), ONE_WISH[0], 1, value)
        for value, fits in (([], True), ((), True), ([((0, 0, -1, 0), (0, 0, 0, 0))], False), (None, False)):
            self.gives(fits, is_stand_in_plan, clean_reader(), ONE_WISH[0], 1, value)
        self.gives([], wish_plan, clean_reader(), ONE_WISH[0], 1)
        self.gives([], stand_in_plan, clean_reader(), ONE_WISH[0], 1)
        self.gives([((0, FIRST, 0), (0, FIRST, 0))], wish_plan, clean_reader(), ONE_WISH[0], 0)
        self.gives([((0, 0, -1, 0), (0, 0, 0, 0)), ((0, 0, 0, 0), (0, 0, -1, 0))], stand_in_plan, clean_reader(),
                   ONE_WISH[0], 0)

    def test_a_chooser_goes_along(self):
        # With a chooser's ways hand 0 wins the stand-in wherever it wins the wish.
        for reader in small_readers(40, 14):
            if play_oracles.letter_board(reader)[0] is not None and has_chooser(reader):
                self.assertIsNotNone(chooser_of(reader))
                wish = some_wish(random.Random(reader.many), reader.letters)
                self.assertEqual(wish_winner(reader, wish), stand_in_winner(reader, wish))

    def test_at_the_limits(self):
        for limit in (STAND_IN_600_WON, STAND_IN_600_LOST):
            reader, wish = game_at(limit)
            for hand in (0, 1):
                self.gives(True, is_stand_in_plan, reader, wish, hand, stand_in_plan(reader, wish, hand))
        reader, wish = game_at(WISH_600)
        for hand in (0, 1):
            self.gives(True, is_wish_plan, reader, wish, hand, wish_plan(reader, wish, hand))

    def test_any_value(self):
        wish = Wish(1, [0], BOTH)
        start, deeper = (0, FIRST, 0), (0, 0, -1, 0)
        for value in junk():
            for told in (value, [value], [(value, start)], [(start, value)], [(value, deeper)], [(deeper, value)],
                         [((value, FIRST, 0), start)], [((0, value, 0), start)], [((0, FIRST, value), start)],
                         [((0, ((0,), value), 0), start)], [((0, 0, value, 0), deeper)], [((0, value, -1, 0), deeper)]):
                self.assertIs(is_wish_plan(last_reader(), wish, 0, told), False, told)
                self.assertIs(is_stand_in_plan(last_reader(), wish, 0, told), False, told)
