"""Plays, who wins them, and from where a plan wins."""

import random

from tests import board_oracles as oracles
from tests.board_oracles import some_boards
from tests.tools import PromiseCase, junk
from tworivals.boards import Board
from tworivals.errors import InvalidBoard, InvalidHand, InvalidPlace, InvalidPlan, InvalidPlay
from tworivals.peeling import plan_of, winners
from tworivals.umpires import is_play, lost_play, plan_wins, play_of, who_wins

ONE = Board([0], [0], [[0]])


def four():
    """The example: hand 0 wins from 0, 1, 2 if it goes from 0 to 2."""
    return Board([0, 1, 0, 1], [0, 1, 2, 1], [[1, 2], [0, 2], [0], [3]])


def ring_board(ranks, owner=0):
    """One ring of places of these ranks."""
    size = len(ranks)
    return Board([owner] * size, ranks, [[(place + 1) % size] for place in range(size)])


def ladder():
    """600 places in a row, at the end one may stay or go on to the begin."""
    return Board([0] * 600, [0] * 600, [[place + 1] for place in range(599)] + [[0, 599]])


def some_plan(source, board, hand):
    """A plan of the hand, for most of its places."""
    own = [place for place in oracles.places_of(board, hand) if source.randrange(6)]
    return [(place, source.choice(board.moves()[place])) for place in own]


WRONG_PLANS = ([(0, 0)], [(0, 3)], [(2, 1)], [(1, 0)], [(3, 3)], [(2, 0), (0, 1)], [(0, 1), (0, 2)], [(0, 1), (0, 1)],
               [(4, 0)], [(-1, 0)], [(0, -1)], [(0, True)], [(False, 1)], [[0, 1]], [(0, 1, 2)], [(0,)], [0], [None],
               {0: 1}, {(0, 1)}, "01", None, 0, True, [(0, "1")], [(None, 1)], [([0], 1)], [(0, [1])])


class TestIsPlay(PromiseCase):

    def test_four(self):
        for value, fits in ((([], [0, 2]), True), (([1], [0, 2]), True), (([], [0]), False), (([0, 2], [0, 1]), True),
                            (([], [3]), True), (([3, 3], [3, 3]), True), (([0], [3]), False), (([0], [1]), False),
                            (([], []), False), (([0], []), False), (([2, 0], [2, 0]), True), (([1, 1], [0, 1]), False),
                            (([0, 1], [0, 2]), True), (([0, 1], [2, 0]), True), (([2], [0, 1, 0, 2]), True),
                            (([2, 1], [0, 2]), False), (((), (0, 2)), True), (([], (0, 2)), True), (([4], [0, 2]), False),
                            (([], [0, 2, 0]), False), (([-1], [0, 2]), False)):
            self.gives(fits, is_play, four(), value)

    def test_kinds(self):
        for value in ([[], [0, 2]], ([], [0, 2], []), ([],), ([0, 2],), ({}, [0, 2]), ([], {0: 2, 2: 0}), ([], None),
                      (None, [0, 2]), ([], [False, 2]), ([True], [0, 2]), ([], ["0", 2]), ([], [None]), ([], [[0], 2]),
                      ("", [0, 2]), ([], {0, 2}), ([], range(0)), None, 0, True, "play"):
            self.assertIs(is_play(four(), value), False, value)
        self.gives(False, is_play, Board([0, 0], [0, 0], [[1], [0]]), ([], [False, True]))

    def test_by_definition(self):
        source = random.Random(3)
        found = {True: 0, False: 0}
        for board in some_boards(200, 12, places=4):
            for _ in range(20):
                gone = [[source.randrange(board.many) for _ in range(source.randrange(4))] for _ in (0, 1)]
                value = (gone[0], gone[1])
                fits = oracles.is_play(board, value)
                self.gives(fits, is_play, board, value)
                found[fits] += 1
        self.assertGreater(min(found.values()), 300)

    def test_any_value(self):
        for value in junk():
            for told in (value, (value, [0]), ([], value), ([value], [0]), ([], [value]), ([], [0, value])):
                fits = oracles.is_play(ONE, told)
                self.assertIs(is_play(ONE, told), fits, told)

    def test_wrong(self):
        self.refuses_junk(InvalidBoard, is_play, None, None, at=0, fine=[ONE])


class TestWhoWins(PromiseCase):

    def test_four(self):
        self.gives(0, who_wins, four(), ([1], [0, 2]))
        self.gives(1, who_wins, four(), ([2], [0, 1]))
        self.gives(1, who_wins, four(), ((), (3,)))
        self.gives(0, who_wins, four(), ([], [0, 1, 0, 2]))
        self.gives(1, who_wins, four(), ([0, 2, 0, 2], [0, 1, 0, 1]))

    def test_one_place(self):
        for owner in (0, 1):
            for rank, winner in ((0, 0), (1, 1), (2, 0)):
                self.gives(winner, who_wins, Board([owner], [rank], [[0]]), ([], [0]))
                self.gives(winner, who_wins, Board([owner], [rank], [[0]]), ([0], [0, 0, 0]))

    def test_the_greatest_rank_of_the_loop(self):
        for ranks, winner in (([0, 0], 0), ([0, 1], 1), ([1, 0], 1), ([1, 2], 0), ([2, 1], 0), ([0, 2], 0), ([1, 1], 1)):
            self.gives(winner, who_wins, ring_board(ranks), ([], [0, 1]))

    def test_a_loop_gone_twice_or_begun_later(self):
        source = random.Random(8)
        for board in some_boards(100, 13, places=6):
            plans = [[(place, source.choice(board.moves()[place])) for place in oracles.places_of(board, hand)]
                     for hand in (0, 1)]
            head, loop = play_of(board, source.randrange(board.many), *plans)
            winner = who_wins(board, (head, loop))
            self.assertEqual(winner, oracles.winner_of(board, (head, loop)))
            for other in ((head, loop + loop), (head + loop, loop), (head + loop[:1], loop[1:] + loop[:1]),
                          (head + loop * 2 + loop[:1], (loop[1:] + loop[:1]) * 3)):
                self.gives(True, is_play, board, other)
                self.gives(winner, who_wins, board, other)

    def test_1200_places(self):
        board = ladder()
        gone = list(range(600))
        self.gives(0, who_wins, board, (gone, gone))
        self.gives(0, who_wins, board, ([599] * 600, [599] * 600))
        self.refuses(InvalidPlay, (gone, gone + [599]), who_wins, board, (gone, gone + [599]))
        self.refuses(InvalidPlay, ([599] * 601, [599] * 600), who_wins, board, ([599] * 601, [599] * 600))

    def test_wrong(self):
        self.refuses_junk(InvalidBoard, who_wins, None, None, at=0, fine=[ONE])
        self.refuses_junk(InvalidPlay, who_wins, four(), None, at=1)
        for play in (([], [0]), ([], []), ([4], [3]), [[], [3]], ([0], [3]), ([], [3], []), ([], [True])):
            self.refuses(InvalidPlay, play, who_wins, four(), play)


class TestPlayOf(PromiseCase):

    def test_four(self):
        self.gives(([1], [0, 2]), play_of, four(), 1, [(0, 2), (2, 0)], [(1, 0), (3, 3)])
        self.gives(([], [3]), play_of, four(), 3, [(0, 2), (2, 0)], [(1, 0), (3, 3)])
        self.gives(([], [3]), play_of, four(), 3, (), ((3, 3),))
        self.gives(([2], [0, 1]), play_of, four(), 2, ((0, 1), (2, 0)), ((1, 0),))
        self.gives(([], [0, 2]), play_of, four(), 0, [(0, 2), (2, 0)], [])

    def test_by_walking(self):
        source = random.Random(4)
        told = lacking = 0
        for board in some_boards(300, 14, places=9):
            plan, other = [some_plan(source, board, hand) for hand in (0, 1)]
            for place in range(board.many):
                moves = dict(plan + other)
                play = oracles.walk(board, place, moves)
                if play is None:
                    while place in moves:
                        place = moves[place]
                    self.no_move(place, play_of, board, place, plan, other)
                    lacking += 1
                    continue
                self.gives(play, play_of, board, place, plan, other)
                self.assertIs(is_play(board, play), True)
                told += 1
        self.assertGreater(min(told, lacking), 300)

    def test_the_first_place_that_lacks(self):
        self.no_move(1, play_of, four(), 0, [(0, 1)], [])
        self.no_move(2, play_of, four(), 0, [(0, 2)], [(1, 0)])
        self.no_move(0, play_of, four(), 1, [], [(1, 0)])
        self.no_move(3, play_of, four(), 3, [(0, 1)], [])

    def test_600_places(self):
        plan = [(place, place + 1) for place in range(599)] + [(599, 0)]
        self.gives(([], list(range(7, 600)) + list(range(7))), play_of, ladder(), 7, plan, [])
        self.gives((list(range(599)), [599]), play_of, ladder(), 0, plan[:-1] + [(599, 599)], ())

    def test_wrong(self):
        self.refuses_junk(InvalidBoard, play_of, None, None, None, None, at=0, fine=[ONE])
        self.refuses_junk(InvalidPlace, play_of, four(), None, None, None, at=1)
        for place in (4, -1, True, False, 10 ** 29, None):
            self.refuses(InvalidPlace, place, play_of, four(), place, None, None)
        self.refuses_junk(InvalidPlan, play_of, four(), 0, None, None, at=2, fine=[[], ()])
        self.refuses_junk(InvalidPlan, play_of, four(), 0, [], None, at=3, fine=[[], ()])
        for plan in WRONG_PLANS:
            self.refuses(InvalidPlan, plan, play_of, four(), 0, plan, None)
        for plan in ([(0, 1)], [(1, 1)], [(3, 0)], [(1, 2), (1, 2)], [(3, 3), (1, 0)], [(True, 0)]):
            self.refuses(InvalidPlan, plan, play_of, four(), 0, [(0, 1)], plan)


class TestPlanWins(PromiseCase):

    def test_four(self):
        self.gives([0, 1, 2], plan_wins, four(), 0, [(0, 2), (2, 0)])
        self.gives([], plan_wins, four(), 0, [(0, 1), (2, 0)])
        self.gives([3], plan_wins, four(), 1, [(3, 3)])
        self.gives([], plan_wins, four(), 1, [])
        self.gives([], plan_wins, four(), 0, [])
        self.gives([], plan_wins, four(), 0, ((0, 2),))

    def test_below_4b5(self):
        board = four()
        self.assertEqual(winners(board), [0, 0, 0, 1])
        for plan, own in (([(0, 2), (2, 0)], [0, 1, 2]), ([(0, 1), (2, 0)], [])):
            self.gives(own, plan_wins, board, 0, plan)
        self.gives([(0, 2), (2, 0)], plan_of, board, 0)
        self.gives([(3, 3)], plan_of, board, 1)

    def test_one_place(self):
        for rank, winner in ((0, 0), (1, 1), (2, 0)):
            for hand in (0, 1):
                board = Board([hand], [rank], [[0]])
                self.gives([0] if winner == hand else [], plan_wins, board, hand, [(0, 0)])
                self.gives([], plan_wins, board, hand, [])
                board = Board([1 - hand], [rank], [[0]])
                self.gives([0] if winner == hand else [], plan_wins, board, hand, [])

    def test_by_rings(self):
        source = random.Random(6)
        some = none = 0
        for board in some_boards(300, 15, places=8):
            for hand in (0, 1):
                plan = some_plan(source, board, hand)
                own = oracles.plan_wins(board, hand, plan)
                self.gives(own, plan_wins, board, hand, plan)
                some, none = some + bool(own), none + (not own)
        self.assertGreater(min(some, none), 100)

    def test_by_all_plans_of_the_other_hand(self):
        # Who moves otherwise from time to time wins no more than who moves by some plan.
        for board in some_boards(150, 16, places=5):
            for hand in (0, 1):
                for plan in list(oracles.all_plans(board, hand))[:6]:
                    own = []
                    for place in range(board.many):
                        plays = [oracles.walk(board, place, dict(plan + other))
                                 for other in oracles.all_plans(board, 1 - hand)]
                        if all(oracles.winner_of(board, play) == hand for play in plays):
                            own.append(place)
                    self.gives(own, plan_wins, board, hand, plan)

    def test_no_plan_wins_from_more_than_the_hand(self):
        for board in some_boards(100, 17, places=6):
            for hand in (0, 1):
                own = [place for place, winner in enumerate(winners(board)) if winner == hand]
                for plan in list(oracles.all_plans(board, hand))[:10]:
                    self.assertLessEqual(set(plan_wins(board, hand, plan)), set(own))

    def test_wrong(self):
        self.refuses_junk(InvalidBoard, plan_wins, None, None, None, at=0, fine=[ONE])
        self.refuses_junk(InvalidHand, plan_wins, four(), None, None, at=1)
        self.refuses_junk(InvalidPlan, plan_wins, four(), 0, None, at=2, fine=[[], ()])
        for hand in (2, -1, True, False):
            self.refuses(InvalidHand, hand, plan_wins, four(), hand, None)
        for plan in WRONG_PLANS:
            self.refuses(InvalidPlan, plan, plan_wins, four(), 0, plan)
        self.refuses(InvalidPlan, [(0, 1)], plan_wins, four(), 1, [(0, 1)])


class TestLostPlay(PromiseCase):

    def checked(self, board, hand, place, plan):
        """Which of the three is told: a play, none, or a place that lacks."""
        lacks = oracles.missing(board, hand, place, plan)
        if lacks:
            self.no_move(lacks[0], lost_play, board, hand, place, plan)
            return "lacks"
        play = self.ask(lost_play, board, hand, place, plan, exact=False)
        if place in oracles.plan_wins(board, hand, plan):
            self.assertIsNone(play)
            return "none"
        self.assertTrue(oracles.is_play(board, play))
        self.assertEqual([type(part) for part in play], [list, list])
        self.assertEqual((play[0] + play[1])[0], place)
        self.assertLessEqual(len(play[0]) + len(play[1]), 1200)
        self.assertTrue(oracles.goes_along(board, hand, plan, play))
        self.gives(True, is_play, board, play)
        self.gives(1 - hand, who_wins, board, play)
        return "play"

    def test_four(self):
        self.assertEqual(self.checked(four(), 0, 2, [(0, 1), (2, 0)]), "play")
        self.gives(None, lost_play, four(), 0, 0, [(0, 2), (2, 0)])
        self.gives(None, lost_play, four(), 1, 3, [(3, 3)])
        self.gives(([], [3]), lost_play, four(), 0, 3, [(0, 2)])
        self.no_move(0, lost_play, four(), 0, 1, [])
        self.no_move(0, lost_play, four(), 0, 2, [(2, 0)])
        self.no_move(1, lost_play, four(), 1, 2, [])

    def test_the_least_place_that_lacks(self):
        board = Board([1, 0, 0, 0, 0], [1, 1, 1, 1, 1], [[1, 2, 3, 4], [1], [2], [3], [4]])
        self.no_move(1, lost_play, board, 0, 0, [])
        self.no_move(2, lost_play, board, 0, 0, [(1, 1)])
        self.no_move(4, lost_play, board, 0, 0, [(1, 1), (2, 2), (3, 3)])
        self.no_move(3, lost_play, board, 0, 3, [(1, 1)])
        self.assertEqual(self.checked(board, 0, 0, [(1, 1), (2, 2), (3, 3), (4, 4)]), "play")

    def test_a_place_that_lacks_comes_ahead_of_a_lost_play(self):
        board = Board([1, 0], [1, 0], [[0, 1], [1]])
        self.no_move(1, lost_play, board, 0, 0, [])
        self.gives(([], [0]), lost_play, board, 0, 0, [(1, 1)])
        self.gives(None, lost_play, board, 0, 1, [(1, 1)])

    def test_by_rings(self):
        source = random.Random(7)
        found = {"lacks": 0, "none": 0, "play": 0}
        for board in some_boards(250, 18, places=8):
            for hand in (0, 1):
                for plan in (some_plan(source, board, hand), plan_of(board, hand), next(oracles.all_plans(board, hand))):
                    for place in range(board.many):
                        found[self.checked(board, hand, place, plan)] += 1
        self.assertGreater(min(found.values()), 500)

    def test_greater_ranks_that_do_not_matter(self):
        # The ring of rank 0 loses for hand 1, though one comes by ranks 1 and 2, and others lead round by rank 1.
        board = Board([0] * 4, [2, 1, 0, 1], [[1], [2, 3], [1, 2, 3], [1]])
        self.assertEqual(self.checked(board, 1, 0, []), "play")
        board = Board([0] * 3, [1, 0, 0], [[1], [0, 2], [1]])
        self.assertEqual(self.checked(board, 1, 0, []), "play")
        self.gives([], plan_wins, board, 1, [])

    def test_long_plays(self):
        board = Board([1] * 600, [1] * 600, [[place + 1] for place in range(599)] + [[0]])
        self.gives(([], list(range(30, 600)) + list(range(30))), play_of, board, 30, [],
                   [(place, (place + 1) % 600) for place in range(600)])
        self.assertEqual(self.checked(board, 0, 30, []), "play")
        # The only place of rank 1 is at the end: a long way there, and a long ring.
        board = Board([1] * 600, [0] * 599 + [1], [[place + 1] for place in range(599)] + [[0]])
        self.assertEqual(self.checked(board, 0, 0, []), "play")
        self.assertEqual(self.checked(board, 0, 300, []), "play")

    def test_wrong(self):
        self.refuses_junk(InvalidBoard, lost_play, None, None, None, None, at=0, fine=[ONE])
        self.refuses_junk(InvalidHand, lost_play, four(), None, None, None, at=1)
        self.refuses_junk(InvalidPlace, lost_play, four(), 0, None, None, at=2)
        self.refuses_junk(InvalidPlan, lost_play, four(), 0, 3, None, at=3, fine=[[], ()])
        for place in (4, -1, True, False):
            self.refuses(InvalidPlace, place, lost_play, four(), 1, place, None)
        for plan in WRONG_PLANS:
            self.refuses(InvalidPlan, plan, lost_play, four(), 0, 1, plan)
        self.refuses(InvalidPlan, [(2, 0)], lost_play, four(), 1, 1, [(2, 0)])
