"""Places pulled to a lot, layers peeled off, who wins from where, and plans that win on all of it."""

import random

from tests import board_oracles as oracles
from tests.board_oracles import some_boards
from tests.tools import PromiseCase, junk
from tworivals.boards import Board, plain_winners
from tworivals.errors import InvalidBoard, InvalidHand, InvalidLot
from tworivals.measures import win_paper
from tworivals.peeling import is_plan, peeled, plan_of, pulled, winners
from tworivals.umpires import plan_wins

ONE = Board([0], [0], [[0]])


def swing():
    return Board([0, 1], [1, 2], [[0, 1], [0]])


def trap():
    return Board([1, 1], [1, 2], [[0, 1], [0]])


def stair_board(layers):
    """Layer behind layer: from each hand 0 leaves for rank 2, as long as the layer ahead isn't taken away."""
    owners, ranks, moves = [1], [1], [[0]]
    for at in range(1, 2 * layers - 1, 2):
        owners += [1, 0]
        ranks += [2, 1]
        moves += [[at - 1], [at, at + 1]]
    return Board(owners, ranks, moves)


def large_boards():
    """Boards of 600 places, of few moves, of many, and of few ranks 2."""
    source = random.Random(9)
    boards = []
    for most, ranks in ((2, [0, 1, 2]), (3, [0, 0, 0, 0, 1, 2]), (2, [0] * 30 + [1] * 8 + [2]), (40, [0, 1, 2])):
        moves = [sorted(source.sample(range(600), source.randint(1, most))) for _ in range(600)]
        boards.append(Board([source.randrange(2) for _ in range(600)], [source.choice(ranks) for _ in range(600)], moves))
    return boards


class TestPulled(PromiseCase):

    def test_swing(self):
        self.gives([0, 1], pulled, swing(), 0, [1])
        self.gives([1], pulled, swing(), 1, [1])
        self.gives([0, 1], pulled, swing(), 1, [0])

    def test_an_empty_lot_and_a_full_one(self):
        for board in some_boards(40):
            for hand in (0, 1):
                self.gives([], pulled, board, hand, [])
                self.gives([], pulled, board, hand, ())
                self.gives(list(range(board.many)), pulled, board, hand, list(range(board.many)))
                self.gives(list(range(board.many)), pulled, board, hand, tuple(range(board.many)))

    def test_one_place(self):
        for owner in (0, 1):
            for hand in (0, 1):
                self.gives([0], pulled, Board([owner], [1], [[0]]), hand, [0])
                self.gives([], pulled, Board([owner], [1], [[0]]), hand, [])

    def test_by_growing(self):
        source = random.Random(5)
        for board in some_boards(200, 4, places=9):
            for hand in (0, 1):
                lot = sorted(source.sample(range(board.many), source.randint(0, board.many)))
                self.gives(oracles.pulled(board, hand, lot), pulled, board, hand, lot)

    def test_a_long_way(self):
        board = Board([place % 2 for place in range(600)], [0] * 600, [[max(place - 1, 0)] for place in range(600)])
        self.gives(list(range(600)), pulled, board, 0, [0])
        self.gives(list(range(599, 600)), pulled, board, 1, [599])

    def test_wrong(self):
        self.refuses_junk(InvalidBoard, pulled, None, None, None, at=0, fine=[ONE])
        self.refuses_junk(InvalidHand, pulled, swing(), None, None, at=1)
        for hand in (2, -1, True, False, 10 ** 29):
            self.refuses(InvalidHand, hand, pulled, swing(), hand, None)
        self.refuses_junk(InvalidLot, pulled, swing(), 1, None, at=2, fine=[[], (), [0], (0,)])
        for lot in ([2], [-1], [1, 0], [0, 0], [True], [0, True], {0: 0}, {0}, "0", [0, 1, 2], [None], [[0]]):
            self.refuses(InvalidLot, lot, pulled, swing(), 0, lot)


class TestPeeled(PromiseCase):

    def test_boards(self):
        self.gives([], peeled, swing())
        self.gives([[0, 1]], peeled, trap())
        self.gives([[1]], peeled, Board([0, 1], [0, 1], [[0], [0, 1]]))

    def test_one_place(self):
        for owner in (0, 1):
            for rank, layers in ((0, []), (1, [[0]]), (2, [])):
                self.gives(layers, peeled, Board([owner], [rank], [[0]]))

    def test_by_words(self):
        many = {}
        for board in some_boards(400, 6, places=14, most=4):
            told = oracles.peeled(board)
            self.gives(told, peeled, board)
            many[len(told)] = many.get(len(told), 0) + 1
        self.assertGreater(min(many[0], many[1]), 50)
        self.assertGreater(many[2], 5)

    def test_many_layers(self):
        for layers in (2, 3, 7, 300):
            board = stair_board(layers)
            told = [[at, at + 1] for at in range(0, 2 * layers - 2, 2)] + [[2 * layers - 2]]
            if layers < 10:
                self.assertEqual(oracles.peeled(board), told)
            self.gives(told, peeled, board)
            self.gives([1] * board.many, winners, board)

    def test_large_boards(self):
        for board in large_boards():
            layers = self.ask(peeled, board)
            told = oracles.winners_by_lifting(board)
            self.assertEqual(sorted(sum(layers, [])), [place for place in range(600) if told[place] == 1])

    def test_told_lists_are_new(self):
        board = trap()
        peeled(board)[0].append(5)
        self.gives([[0, 1]], peeled, board)

    def test_wrong(self):
        self.refuses_junk(InvalidBoard, peeled, None, at=0, fine=[ONE])


class TestWinners(PromiseCase):

    def test_as_told_otherwise(self):
        found = {0: 0, 1: 0}
        for board in some_boards(300, 7, places=8):
            told = self.ask(winners, board)
            self.exactly(told, plain_winners(board))
            lifted = oracles.winners_by_lifting(board)
            self.assertEqual(told, [lifted[place] for place in range(board.many)])
            layers = sorted(sum(peeled(board), []))
            self.assertEqual(layers, [place for place in range(board.many) if told[place] == 1])
            for hand in (0, 1):
                paper = win_paper(board, hand)
                own = [place for place in range(board.many) if told[place] == hand]
                self.assertEqual(paper[0] if paper else [], own)
                found[hand] += len(own)
        self.assertGreater(min(found.values()), 300)

    def test_large_boards(self):
        for board in large_boards():
            lifted = oracles.winners_by_lifting(board)
            self.gives([lifted[place] for place in range(600)], winners, board)

    def test_wrong(self):
        self.refuses_junk(InvalidBoard, winners, None, at=0, fine=[ONE])


class TestPlanOf(PromiseCase):

    def checked(self, board, hand, own):
        plan = self.ask(plan_of, board, hand, exact=False)
        self.assertIs(type(plan), list)
        self.assertTrue(oracles.is_partial_plan(board, hand, plan))
        self.assertEqual([place for place, _ in plan], [place for place in own if board.owners()[place] == hand])
        self.gives(True, is_plan, board, hand, plan)
        self.gives(own, plan_wins, board, hand, plan)
        return plan

    def test_wins(self):
        for board in some_boards(400, 8, places=12, most=4):
            lifted = oracles.winners_by_lifting(board)
            for hand in (0, 1):
                own = [place for place in range(board.many) if lifted[place] == hand]
                plan = self.checked(board, hand, own)
                self.assertEqual(oracles.plan_wins(board, hand, plan), own)

    def test_wins_nowhere(self):
        self.gives([], plan_of, swing(), 1)
        self.gives([], plan_of, trap(), 0)

    def test_large_boards(self):
        for board in large_boards() + [stair_board(40)]:
            lifted = oracles.winners_by_lifting(board)
            for hand in (0, 1):
                self.checked(board, hand, [place for place in range(board.many) if lifted[place] == hand])

    def test_wrong(self):
        self.refuses_junk(InvalidBoard, plan_of, None, None, at=0, fine=[ONE])
        self.refuses_junk(InvalidHand, plan_of, swing(), None, at=1)
        for hand in (2, -1, True, False):
            self.refuses(InvalidHand, hand, plan_of, swing(), hand)


class TestIsPlan(PromiseCase):

    def test_swing(self):
        for value, fits in (([(0, 1)], True), ([(0, 0)], False), ([], False), ((), False), (((0, 1),), True),
                            ([[0, 1]], False), ([(0, 2)], False), ([(1, 0)], False), ([(0, 1), (1, 0)], False),
                            ([(0, 1), (0, 1)], False), ([(0, 1, 0)], False), ([(0,)], False), ([(False, 1)], False),
                            ([(0, True)], False), ([0], False), ({0: 1}, False), ({(0, 1)}, False), ((0, 1), False)):
            self.gives(fits, is_plan, swing(), 0, value)
        for value in ([], ()):
            self.gives(True, is_plan, swing(), 1, value)
            self.gives(True, is_plan, trap(), 0, value)
        self.gives(False, is_plan, swing(), 1, [(1, 0)])

    def test_by_definition(self):
        source = random.Random(10)
        found = {True: 0, False: 0}
        for board in some_boards(150, 9, places=5):
            lifted = oracles.winners_by_lifting(board)
            for hand in (0, 1):
                own = [place for place in range(board.many) if lifted[place] == hand]
                mine = [place for place in own if board.owners()[place] == hand]
                values = [plan for plan in oracles.all_plans(board, hand)][:30]
                values += [[item for item in plan if item[0] in mine] for plan in values]
                values += [[item for item in plan if source.randrange(5)] for plan in values[:10]]
                values += [plan[::-1] for plan in values[:5]]
                for plan in values:
                    fits = oracles.is_partial_plan(board, hand, plan) and [item[0] for item in plan] == mine \
                        and oracles.plan_wins(board, hand, plan) == own
                    self.assertIs(is_plan(board, hand, plan), fits, (board.moves(), hand, plan))
                    found[fits] += 1
        self.assertGreater(min(found.values()), 300)

    def test_moves_that_win_nowhere_are_no_part(self):
        # From place 2 hand 1 wins: a plan of hand 0 doesn't tell it.
        board = Board([0, 0, 0], [2, 1, 1], [[0, 1], [0, 1], [2]])
        self.gives(True, is_plan, board, 0, [(0, 0), (1, 0)])
        self.gives(True, is_plan, board, 0, [(0, 1), (1, 0)])
        self.gives(False, is_plan, board, 0, [(0, 0), (1, 0), (2, 2)])
        self.gives(False, is_plan, board, 0, [(0, 0)])
        self.gives(False, is_plan, board, 0, [(0, 0), (1, 1)])
        self.gives(True, is_plan, board, 1, [])
        self.gives([2], plan_wins, board, 1, [])

    def test_any_value(self):
        for value in junk():
            fits = value in ([], ()) and type(value) in (list, tuple)
            self.assertIs(is_plan(swing(), 1, value), fits, value)
            for told in ([value], [(value, 1)], [(0, value)], (value, 1)):
                self.assertIs(is_plan(swing(), 0, told), False, told)

    def test_wrong(self):
        self.refuses_junk(InvalidBoard, is_plan, None, None, None, at=0, fine=[ONE])
        self.refuses_junk(InvalidHand, is_plan, swing(), None, None, at=1)
        for hand in (2, -1, True, False):
            self.refuses(InvalidHand, hand, is_plan, swing(), hand, [])
