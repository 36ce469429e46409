"""Win papers: plans with numbers that show that they win [4b3], [4b4], [4b5]."""

from tworivals.basics import is_count, is_list, is_pair
from tworivals.boards import are_places, check_board
from tworivals.checks import check_hand
from tworivals.graphs import least_pairs, most_worth
from tworivals.peeling import plan_of, winners
from tworivals.plans import is_plan_of, leads_along


def win_paper(board, hand):
    """A win paper of the hand whose lot is all the places from which it wins, None if there are none."""
    check_board(board)
    check_hand(hand)
    lot = [place for place, winner in enumerate(winners(board)) if winner == hand]
    if not lot:
        return None
    plan = plan_of(board, hand)
    leads = leads_along(board, hand, plan)
    inside = [(onward if place in lot else []) for place, onward in enumerate(leads)]
    numbers = _first_numbers(board, inside) if hand == 0 else _second_numbers(board, inside)
    return lot, plan, [numbers[place] for place in lot]


def is_win_paper(board, hand, value):
    """Whether the value is a win paper of the hand, of whatever lot."""
    check_board(board)
    check_hand(hand)
    if not isinstance(value, tuple) or len(value) != 3:
        return False
    lot, plan, numbers = value
    if not are_places(board.many, lot) or len(lot) == 0 or not is_plan_of(board, hand, plan):
        return False
    owners = board.owners()
    if [place for place, _ in plan] != [place for place in lot if owners[place] == hand]:
        return False
    if not is_list(numbers) or len(numbers) != len(lot) or not all([_is_number(hand, item) for item in numbers]):
        return False
    return _fall(board, hand, plan, {place: numbers[at] for at, place in enumerate(lot)})


def _first_numbers(board, leads):
    """For each place how often rank 1 can come at most ahead of rank 2."""
    ranks = board.ranks()
    return most_worth([[(to, ranks[place]) for to in onward if ranks[place] < 2]
                       for place, onward in enumerate(leads)])


def _second_numbers(board, leads):
    """For each place how often rank 2 can come at most, and how often rank 0 ahead of another rank meanwhile."""
    ranks = board.ranks()
    return least_pairs([[(to, ranks[place] // 2, 1 if ranks[place] == 0 else 0) for to in onward]
                        for place, onward in enumerate(leads)])


def _is_number(hand, value):
    if hand == 0:
        return is_count(value)
    return is_pair(value) and is_count(value[0]) and is_count(value[1])


def _fall(board, hand, plan, numbers):
    """Whether all steps lead to places with numbers that are as small as they have to be."""
    leads = leads_along(board, hand, plan)
    ranks = board.ranks()
    for place in numbers:
        for to in leads[place]:
            if to not in numbers or not _falls(hand, ranks[place], numbers[place], numbers[to]):
                return False
    return True


def _falls(hand, rank, number, behind):
    """Whether the number behind a step is as small as it has to be, from a place of this rank with this number."""
    if hand == 0:
        return rank == 2 or behind < number or (rank == 0 and behind == number)
    if rank == 0:
        # As pairs are sorted: the first is less, or they are equal and the second is.
        return behind < number
    return behind[0] < number[0] or (rank == 1 and behind[0] == number[0])
