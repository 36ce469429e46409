"""Plans of a hand, and play along them [4b2]."""

from tworivals.basics import is_below, is_list, is_pair, is_rising
from tworivals.errors import InvalidPlan
from tworivals.graphs import fewest_steps, turned_round
from tworivals.rings import lost_places


def is_plan_of(board, hand, value):
    """Whether the value is a plan of the hand, perhaps not for all of its places."""
    if not is_list(value):
        return False
    owners = board.owners()
    moves = board.moves()
    for item in value:
        if not is_pair(item) or not is_below(item[0], board.many) or not is_below(item[1], board.many):
            return False
        if owners[item[0]] != hand or item[1] not in moves[item[0]]:
            return False
    return is_rising([place for place, _ in value])


def check_plan(board, hand, plan):
    """Only a plan of the hand passes."""
    if not is_plan_of(board, hand, plan):
        raise InvalidPlan(plan)


def leads_along(board, hand, plan):
    """For each place the places to which play along the plan goes: none from the hand's places that aren't in it."""
    planned = {place: move for place, move in plan}
    leads = board.moves()
    for place, owner in enumerate(board.owners()):
        if owner == hand:
            leads[place] = [planned[place]] if place in planned else []
    return leads


def winning_places(board, hand, plan):
    """The rising list of the places from which the plan wins."""
    leads = leads_along(board, hand, plan)
    ends = [place for place, onward in enumerate(leads) if not onward]
    lost = fewest_steps(turned_round(leads), ends + lost_places(board.ranks(), leads, hand))
    return [place for place, steps in enumerate(lost) if steps is None]
