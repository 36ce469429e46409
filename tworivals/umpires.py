"""Plays that go round at last, who wins them, and from where a plan wins [4b1], [4b2]."""

from tworivals.basics import is_below, is_list, is_pair
from tworivals.boards import check_board, check_place_of
from tworivals.checks import check_hand
from tworivals.errors import InvalidPlay, NoMove
from tworivals.graphs import fewest_between, fewest_steps
from tworivals.plans import check_plan, leads_along, winning_places
from tworivals.rings import leads_within, lost_places

MOST_PLAYED = 1200


def is_play(board, value):
    """Whether the value is a play of the board, of whatever length."""
    check_board(board)
    if not is_pair(value) or not is_list(value[0]) or not is_list(value[1]) or len(value[1]) == 0:
        return False
    head, loop = value
    gone = [*head, *loop]
    if not all([is_below(place, board.many) for place in gone]):
        return False
    moves = board.moves()
    gone.append(loop[0])
    return all([gone[at + 1] in moves[gone[at]] for at in range(len(gone) - 1)])


def who_wins(board, play):
    """The hand that wins the play."""
    check_board(board)
    if not is_play(board, play) or len(play[0]) + len(play[1]) > MOST_PLAYED:
        raise InvalidPlay(play)
    ranks = board.ranks()
    return max([ranks[place] for place in play[1]]) % 2


def play_of(board, place, plan, other):
    """The play from the place along the plan of hand 0 and the other one of hand 1."""
    check_board(board)
    check_place_of(board, place)
    check_plan(board, 0, plan)
    check_plan(board, 1, other)
    moves = {own: move for own, move in [*plan, *other]}
    gone = []
    came = {}
    while place not in came:
        if place not in moves:
            raise NoMove(place)
        came[place] = len(gone)
        gone.append(place)
        place = moves[place]
    return gone[:came[place]], gone[came[place]:]


def plan_wins(board, hand, plan):
    """The rising list of the places from which the plan wins."""
    check_board(board)
    check_hand(hand)
    check_plan(board, hand, plan)
    return winning_places(board, hand, plan)


def lost_play(board, hand, place, plan):
    """A play from the place along the plan that the other hand wins, None if there is none."""
    check_board(board)
    check_hand(hand)
    check_place_of(board, place)
    check_plan(board, hand, plan)
    leads = leads_along(board, hand, plan)
    steps = fewest_steps(leads, [place])
    for at, onward in enumerate(leads):
        if steps[at] is not None and not onward:
            raise NoMove(at)
    ranks = board.ranks()
    lost = [at for at in lost_places(ranks, leads, hand) if steps[at] is not None]
    if not lost:
        return None
    goal = lost[0]
    # The goal has the greatest rank of some ring, so a ring is looked for where no greater one comes.
    loop = fewest_between(leads_within(ranks, leads, ranks[goal]), goal, goal)
    head = [] if place == goal else fewest_between(leads, place, goal)
    return head, loop
