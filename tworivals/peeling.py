"""Who wins from which places of a board, told by peeling layers off, and plans that win [4a2], [4a3], [4a5]."""

from tworivals.boards import are_places, check_board
from tworivals.checks import check_hand
from tworivals.errors import InvalidLot
from tworivals.plans import is_plan_of, winning_places
from tworivals.pulls import ground_of, peel, pull


def pulled(board, hand, lot):
    """The rising list of the places that the hand pulls to the lot."""
    check_board(board)
    check_hand(hand)
    if not are_places(board.many, lot):
        raise InvalidLot(lot)
    return sorted(pull(ground_of(board), [True] * board.many, hand, lot))


def peeled(board):
    """The list of the layers, each a rising list of places."""
    check_board(board)
    layers, _, _ = peel(ground_of(board))
    return layers


def winners(board):
    """The list of who wins from each place."""
    check_board(board)
    won = [0] * board.many
    for layer in peeled(board):
        for place in layer:
            won[place] = 1
    return won


def plan_of(board, hand):
    """A plan of the hand that wins on all places from which it wins."""
    check_board(board)
    check_hand(hand)
    _, first, second = peel(ground_of(board))
    moves = first if hand == 0 else second
    return sorted(list(moves.items()))


def is_plan(board, hand, value):
    """Whether the value is a plan of the hand that wins on all places from which it wins."""
    check_board(board)
    check_hand(hand)
    if not is_plan_of(board, hand, value):
        return False
    owners = board.owners()
    won = [place for place, winner in enumerate(winners(board)) if winner == hand]
    if [place for place, _ in value] != [place for place in won if owners[place] == hand]:
        return False
    return winning_places(board, hand, value) == won
