"""Win papers of both hands."""

import random

from tests import board_oracles as oracles
from tests.board_oracles import some_boards
from tests.test_peeling import large_boards, stair_board
from tests.tools import PromiseCase, junk
from tworivals.boards import Board
from tworivals.errors import InvalidBoard, InvalidHand
from tworivals.measures import is_win_paper, win_paper
from tworivals.peeling import winners
from tworivals.umpires import plan_wins

ONE = Board([0], [0], [[0]])


def four():
    return Board([0, 1, 0, 1], [0, 1, 2, 1], [[1, 2], [0, 2], [0], [3]])


class TestWinPaper(PromiseCase):

    def checked(self, board, hand, own):
        paper = self.ask(win_paper, board, hand, exact=False)
        if not own:
            self.assertIsNone(paper)
            return None
        self.assertIs(type(paper), tuple)
        self.assertEqual([type(part) for part in paper], [list, list, list])
        self.assertEqual(paper[0], own)
        self.assertTrue(oracles.is_win_paper(board, hand, paper))
        self.gives(True, is_win_paper, board, hand, paper)
        self.assertLessEqual(set(own), set(plan_wins(board, hand, paper[1])))
        return paper

    def test_four(self):
        paper = self.checked(four(), 0, [0, 1, 2])
        self.assertEqual(paper[1], [(0, 2), (2, 0)])
        self.assertEqual(self.checked(four(), 1, [3])[1], [(3, 3)])

    def test_one_place(self):
        for owner in (0, 1):
            for rank, winner in ((0, 0), (1, 1), (2, 0)):
                board = Board([owner], [rank], [[0]])
                self.checked(board, winner, [0])
                self.gives(None, win_paper, board, 1 - winner)

    def test_all_of_them(self):
        for board in some_boards(400, 21, places=12, most=4):
            lifted = oracles.winners_by_lifting(board)
            for hand in (0, 1):
                self.checked(board, hand, [place for place in range(board.many) if lifted[place] == hand])

    def test_600_places(self):
        for board in large_boards() + [stair_board(300)]:
            told = winners(board)
            for hand in (0, 1):
                self.checked(board, hand, [place for place in range(board.many) if told[place] == hand])

    def test_great_numbers(self):
        # Many 1s ahead of a 2, many 2s ahead of a 1, many 0s ahead of a 1.
        for hand, ranks in ((0, [1] * 599 + [2]), (1, [2] * 599 + [1]), (1, [0] * 599 + [1]), (1, [0, 2, 1] * 200)):
            board = Board([1 - hand] * 600, ranks, [[min(place + 1, 599)] for place in range(600)])
            self.checked(board, hand, list(range(600)))
            ring = Board([hand] * 600, [0] * 599 + [2 - hand], [[(place + 1) % 600] for place in range(600)])
            self.checked(ring, hand, list(range(600)))

    def test_wrong(self):
        self.refuses_junk(InvalidBoard, win_paper, None, None, at=0, fine=[ONE])
        self.refuses_junk(InvalidHand, win_paper, four(), None, at=1)
        for hand in (2, -1, True, False, 10 ** 29):
            self.refuses(InvalidHand, hand, win_paper, four(), hand)


class TestIsWinPaper(PromiseCase):

    def test_four(self):
        lot, plan = [0, 1, 2], [(0, 2), (2, 0)]
        for numbers, fits in (([0, 1, 0], True), ([0, 0, 0], False), ([0, 1, 5], False), ([5, 6, 5], True), ([7, 8, 3], True),
                              ([0, 2, 0], True), ((0, 1, 0), True), ([0, 1], False), ([0, 1, 0, 0], False),
                              ([0, True, 0], False), ([0, 1, -1], False), ([0, 1, None], False),
                              ([(0, 0), (1, 0), (0, 0)], False), ([10 ** 29, 10 ** 29 + 1, 0], True)):
            self.gives(fits, is_win_paper, four(), 0, (lot, plan, numbers))
        for value in (([0, 1, 2], [(0, 1), (2, 0)], [0, 1, 0]), ([0, 1, 2], [(2, 0)], [0, 1, 0]), ([], [], []),
                      ([0, 1, 2], [(0, 2)], [0, 1, 0]), ([0, 2], [(0, 2), (2, 0)], [0, 0])):
            self.gives(oracles.is_win_paper(four(), 0, value), is_win_paper, four(), 0, value)
        self.gives(True, is_win_paper, four(), 0, ([0, 2], [(0, 2), (2, 0)], [0, 0]))
        self.gives(False, is_win_paper, four(), 0, ([1, 2], [(2, 0)], [0, 0]))

    def test_hand_1(self):
        for value, fits in ((([3], [(3, 3)], [(0, 0)]), True), (([3], [(3, 3)], [(10 ** 29, 5)]), True),
                            (([3], [(3, 3)], [0]), False), (([3], [(3, 3)], [[0, 0]]), False),
                            (([3], [(3, 3)], [(0, 0, 0)]), False), (([3], [(3, 3)], [(0,)]), False),
                            (([3], [], [(0, 0)]), False), (([3], [(3, 3)], [(0, False)]), False),
                            (([3], [(3, 3)], [(-1, 0)]), False), (([3], [(3, 3)], [(0, None)]), False),
                            (([3], [(3, 3)], []), False), (((3,), ((3, 3),), ((0, 0),)), True),
                            ([[3], [(3, 3)], [(0, 0)]], False), (([3], [(3, 3)]), False),
                            (([3], [(3, 3)], [(0, 0)], []), False), (([], [], []), False),
                            (([3], {3: 3}, [(0, 0)]), False), (({3}, [(3, 3)], [(0, 0)]), False)):
            self.gives(fits, is_win_paper, four(), 1, value)

    def test_ranks_of_hand_1(self):
        # One place behind another, the last one of rank 1 leads to itself.
        for rank, numbers, fits in ((0, [(0, 1), (0, 0)], True), (0, [(0, 0), (0, 0)], False), (0, [(1, 0), (0, 5)], True),
                                    (0, [(0, 5), (1, 0)], False), (0, [(0, 1), (0, 1)], False), (0, [(0, 2), (0, 1)], True),
                                    (1, [(0, 0), (0, 0)], True), (1, [(0, 0), (0, 7)], True), (1, [(0, 7), (1, 0)], False),
                                    (1, [(1, 0), (0, 7)], True), (2, [(0, 0), (0, 0)], False), (2, [(1, 0), (0, 0)], True),
                                    (2, [(1, 0), (0, 9)], True), (2, [(0, 9), (0, 0)], False), (2, [(0, 0), (1, 0)], False)):
            for owner, plan in ((0, []), (1, [(0, 1)])):
                board = Board([owner, 0], [rank, 1], [[1], [1]])
                self.gives(fits, is_win_paper, board, 1, ([0, 1], plan, numbers))

    def test_ranks_of_hand_0(self):
        for rank, numbers, fits in ((0, [0, 0], True), (0, [0, 1], False), (0, [1, 0], True), (1, [0, 0], False),
                                    (1, [1, 0], True), (1, [0, 1], False), (2, [0, 9], True), (2, [9, 0], True)):
            for owner, plan in ((1, []), (0, [(0, 1)])):
                board = Board([owner, 1], [rank, 2], [[1], [1]])
                self.gives(fits, is_win_paper, board, 0, ([0, 1], plan, numbers))

    def changed(self, source, board, hand, paper):
        """Values with one thing otherwise, some of them papers all the same."""
        lot, plan, numbers = paper
        yield from [(tuple(lot), tuple(plan), tuple(numbers)), [lot, plan, numbers], (lot, plan), (plan, lot, numbers),
                    (lot, plan, numbers, numbers), (lot[:-1], plan, numbers[:-1]), (lot[::-1], plan, numbers),
                    (lot, plan[::-1], numbers), (lot, plan[1:], numbers), (lot, plan + plan[-1:], numbers),
                    (lot, plan, numbers[1:]), (lot, plan, numbers + numbers[-1:]), (lot + lot[-1:], plan, numbers),
                    (lot + [board.many], plan, numbers + numbers[-1:]), ([bool(place) for place in lot], plan, numbers),
                    (lot, dict(plan), numbers), (lot, [list(item) for item in plan], numbers), None, (None, plan, numbers),
                    (lot, None, numbers), (lot, plan, None), ([], [], [])]
        for at, place in enumerate(lot):
            fewer = [item for item in plan if item[0] != place]
            yield lot[:at] + lot[at + 1:], fewer, numbers[:at] + numbers[at + 1:]
            yield lot, fewer, numbers
            for move in range(board.many):
                yield lot, sorted(fewer + [(place, move)]), numbers
            for number in (0, 1, 2, 5, -1, True, None, (0, 0), (0, 1), (1, 0), (2, 2), (0,), [0, 0], (0, True), (-1, 0)):
                yield lot, plan, numbers[:at] + [number] + numbers[at + 1:]
        for place in range(board.many):
            number = 3 if hand == 0 else (3, 3)
            more = sorted(zip(lot + [place], numbers + [number]))
            moves = [(place, board.moves()[place][0])] if board.owners()[place] == hand else []
            yield [item[0] for item in more], sorted(plan + moves), [item[1] for item in more]

    def test_by_definition(self):
        source = random.Random(11)
        yes = no = 0
        for board in some_boards(120, 22, places=6):
            for hand in (0, 1):
                papers = [win_paper(board, hand)]
                own = oracles.places_of(board, hand)
                papers.append((list(range(board.many)), [(place, source.choice(board.moves()[place])) for place in own],
                               [source.randrange(3) if hand == 0 else (source.randrange(2), source.randrange(3))
                                for _ in range(board.many)]))
                for paper in papers:
                    if paper is None:
                        continue
                    for value in [paper] + list(self.changed(source, board, hand, paper)):
                        fits = oracles.is_win_paper(board, hand, value)
                        self.assertIs(is_win_paper(board, hand, value), fits, (board.moves(), hand, value))
                        yes, no = yes + fits, no + (not fits)
        self.assertGreater(yes, 500)
        self.assertGreater(no, 5000)

    def test_numbers_of_the_other_hand(self):
        board = Board([1], [1], [[0]])
        self.gives(True, is_win_paper, board, 1, ([0], [(0, 0)], [(0, 0)]))
        self.gives(False, is_win_paper, board, 1, ([0], [(0, 0)], [1]))
        board = Board([0], [2], [[0]])
        self.gives(True, is_win_paper, board, 0, ([0], [(0, 0)], [1]))
        self.gives(False, is_win_paper, board, 0, ([0], [(0, 0)], [(1, 0)]))
        self.gives(False, is_win_paper, board, 1, ([0], [], [(1, 0)]))

    def test_shown_winners_are_winners(self):
        source = random.Random(12)
        for board in some_boards(150, 23, places=4):
            for hand in (0, 1):
                for _ in range(20):
                    lot = sorted(source.sample(range(board.many), source.randint(1, board.many)))
                    plan = [(place, source.choice(board.moves()[place])) for place in lot if board.owners()[place] == hand]
                    numbers = [source.randrange(3) if hand == 0 else (source.randrange(2), source.randrange(3))
                               for _ in lot]
                    if is_win_paper(board, hand, (lot, plan, numbers)):
                        self.assertTrue(all(winners(board)[place] == hand for place in lot))

    def test_any_value(self):
        for value in junk():
            for hand in (0, 1):
                for told in (value, (value, [], [0]), ([0], value, [0]), ([0], [], value), ([value], [], [0]),
                             ([0], [value], [0]), ([0], [], [value]), ([0], [(0, 0)], [value])):
                    fits = oracles.is_win_paper(ONE, hand, told)
                    self.assertIs(is_win_paper(ONE, hand, told), fits, told)

    def test_wrong(self):
        self.refuses_junk(InvalidBoard, is_win_paper, None, None, None, at=0, fine=[ONE])
        self.refuses_junk(InvalidHand, is_win_paper, four(), None, None, at=1)
        for hand in (2, -1, True, False):
            self.refuses(InvalidHand, hand, is_win_paper, four(), hand, None)
