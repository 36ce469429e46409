"""Boards, and who wins by all plans of hand 0."""

import random

from tests import board_oracles as oracles
from tests.board_oracles import some_boards
from tests.tools import PromiseCase, junk
from tworivals.boards import Board, plain_winners
from tworivals.errors import InvalidBoard, InvalidMoves, InvalidOwners, InvalidRanks

ONE = Board([0], [0], [[0]])
PARTS = (Board.owners, Board.ranks, Board.moves)


def swing():
    return Board([0, 1], [1, 2], [[0, 1], [0]])


def trap():
    return Board([1, 1], [1, 2], [[0, 1], [0]])


def choice_board(many):
    """A board on which hand 0 has at each place as many moves as this tells."""
    size = max(many + [len(many)])
    return Board([0] * size, [place % 3 for place in range(size)],
                 [list(range(many[place] if place < len(many) else 1)) for place in range(size)])


class TestBoard(PromiseCase):

    def test_parts(self):
        board = self.ask(Board, [0, 1], [1, 2], [[0, 1], [0]])
        for part, told in zip(PARTS, ([0, 1], [1, 2], [[0, 1], [0]])):
            self.exactly(part(board), told)
        self.exactly(board.many, 2)
        board = self.ask(Board, (0, 1), (1, 2), ((0, 1), (0,)))
        for part, told in zip(PARTS, ([0, 1], [1, 2], [[0, 1], [0]])):
            self.exactly(part(board), told)

    def test_what_it_was_made_of_may_change(self):
        owners, ranks, moves = [0, 1], [1, 2], [[0, 1], [0]]
        board = Board(owners, ranks, moves)
        owners[0], ranks[0] = 1, 0
        moves[0].append(5)
        moves[1][0] = 1
        moves.pop()
        for part, told in zip(PARTS, ([0, 1], [1, 2], [[0, 1], [0]])):
            self.exactly(part(board), told)

    def test_told_lists_are_new(self):
        board = swing()
        board.owners()[0] = 1
        board.ranks().pop()
        board.moves()[0].append(7)
        board.moves().pop()
        self.assertEqual(board, swing())
        for part in PARTS:
            self.assertIsNot(part(board), part(board))
        self.assertIsNot(board.moves()[0], board.moves()[0])

    def test_equal(self):
        self.assertIs(swing() == swing(), True)
        self.assertIs(swing() == trap(), False)
        self.assertIs(swing() != trap(), True)
        self.assertIs(swing() == Board([0, 1], [1, 1], [[0, 1], [0]]), False)
        self.assertIs(swing() == Board([0, 1], [1, 2], [[0], [0]]), False)
        self.assertIs(swing() == Board([0, 1], [1, 2], [[0, 1], [1]]), False)
        for value in junk():
            self.assertIs(swing() == value, False)
            self.assertIs(swing() != value, True)

    def test_600_places(self):
        board = Board([1] * 600, [2] * 600, [[599]] * 600)
        self.exactly(board.many, 600)
        self.exactly(board.moves()[599], [599])
        self.exactly(Board([0] * 600, [0] * 600, [list(range(600))] * 600).moves()[3], list(range(600)))
        self.refuses(InvalidOwners, [1] * 601, Board, [1] * 601, [2] * 601, [[0]] * 601)
        self.refuses(InvalidOwners, [], Board, [], [], [])

    def test_wrong_owners(self):
        self.refuses_junk(InvalidOwners, Board, None, None, None, at=0, fine=[[0], (0,)])
        for owners in ([2], [-1], [0, 2], [0, True], [False], ["0"], [[0]], {0: 0}, [10 ** 29], "01"):
            self.refuses(InvalidOwners, owners, Board, owners, None, None)

    def test_wrong_ranks(self):
        self.refuses_junk(InvalidRanks, Board, [0, 1, 0], None, None, at=1)
        self.refuses_junk(InvalidRanks, Board, [0], None, None, at=1, fine=[[0], (0,)])
        for ranks in ([3, 0], [-1, 0], [0, True], [False, 0], [0], [0, 1, 2], [], ["0", 0], [0, None], {0: 0, 1: 1}):
            self.refuses(InvalidRanks, ranks, Board, [0, 1], ranks, None)

    def test_wrong_moves(self):
        self.refuses_junk(InvalidMoves, Board, [0], [0], None, at=2, fine=[[[0]], ([0],), ((0,),), [(0,)]])
        for moves in ([[0]], [[0], []], [[0], [2]], [[0], [-1]], [[0], [1, 0]], [[0], [0, 0]], [[0], [False]], [[0], 0],
                      [[0], [0], [0]], [[0], {0}], [[0], {0: 0}], [[0], "0"], [[0], [None]], [[0], [[0]]], [], None,
                      [[0, True], [0]], [[0], [0, 1, 2]], {0: [0], 1: [0]}):
            self.refuses(InvalidMoves, moves, Board, [0, 1], [2, 1], moves)


class TestPlainWinners(PromiseCase):

    def test_two_boards(self):
        self.gives([0, 0], plain_winners, swing())
        self.gives([1, 1], plain_winners, trap())

    def test_one_place(self):
        for owner in (0, 1):
            for rank, winner in ((0, 0), (1, 1), (2, 0)):
                self.gives([winner], plain_winners, Board([owner], [rank], [[0]]))

    def test_by_pairs_of_plans(self):
        for board in some_boards(400, 2, places=5):
            self.gives(oracles.winners_by_pairs(board), plain_winners, board)

    def test_by_lifting(self):
        for board in some_boards(150, 3, places=9):
            told = oracles.winners_by_lifting(board)
            self.gives([told[place] for place in range(board.many)], plain_winners, board)

    def test_no_places_of_hand_0(self):
        source = random.Random(4)
        for size in (5, 40, 600):
            moves = [sorted(source.sample(range(size), 2)) for _ in range(size)]
            board = Board([1] * size, [source.choice([0, 0, 2, 1]) for _ in range(size)], moves)
            told = oracles.winners_by_lifting(board)
            self.gives([told[place] for place in range(size)], plain_winners, board)

    def test_2000_plans(self):
        for many in ([20, 10, 10], [2, 2, 2, 2, 5, 5, 5], [1] * 500 + [40, 50], [2] * 10):
            board = choice_board(many)
            told = oracles.winners_by_lifting(board)
            self.gives([told[place] for place in range(board.many)], plain_winners, board)
        for many in ([3, 23, 29], [2] * 11, [7, 11, 26], [20, 10, 10, 2], [600] * 600, [1] * 550 + [2] * 50):
            self.too_many("plans", 2000, plain_winners, choice_board(many))

    def test_moves_of_hand_1_are_not_counted(self):
        board = Board([1] * 60, [0] * 60, [list(range(60))] * 60)
        self.gives([0] * 60, plain_winners, board)

    def test_wrong(self):
        self.refuses_junk(InvalidBoard, plain_winners, None, at=0, fine=[ONE])
