"""Boards told another way, as plainly as the words of the document go, to compare with."""

import itertools
import random

from tests.oracles import plain_count
from tworivals.boards import Board


def some_boards(many, seed=1, places=7, most=3):
    """So many boards of all sorts, the same each time; most is how many moves a place has at most."""
    source = random.Random(seed)
    boards = []
    while len(boards) < many:
        size = source.randint(1, places)
        weights = [source.choice([1, 1, 2, 5]) for _ in range(3)]
        ranks = source.choices([0, 1, 2], weights, k=size)
        moves = [sorted(source.sample(range(size), source.randint(1, min(most, size)))) for _ in range(size)]
        boards.append(Board([source.randrange(2) for _ in range(size)], ranks, moves))
    return boards


def places_of(board, hand):
    return [place for place, owner in enumerate(board.owners()) if owner == hand]


def all_plans(board, hand):
    """All plans of the hand for all its places."""
    own = places_of(board, hand)
    for chosen in itertools.product(*[board.moves()[place] for place in own]):
        yield list(zip(own, chosen))


def walk(board, place, moves):
    """The head and the loop of the only play from the place by these moves, a dict; None if one lacks."""
    gone = []
    while place not in gone:
        gone.append(place)
        if place not in moves:
            return None
        place = moves[place]
    return gone[:gone.index(place)], gone[gone.index(place):]


def winner_of(board, play):
    return 1 if max(board.ranks()[place] for place in play[1]) == 1 else 0


def winners_by_pairs(board):
    """Who wins from each place: hand 0, if some plan of it wins against all plans of hand 1."""
    won = [1] * board.many
    for plan in all_plans(board, 0):
        for place in range(board.many):
            against = [walk(board, place, dict(plan + other)) for other in all_plans(board, 1)]
            if all(winner_of(board, play) == 0 for play in against):
                won[place] = 0
    return won


def winners_by_lifting(board, left=None):
    """Who wins from each place of what is left, a dict: hand 0, where no number has to rise above all bounds."""
    left = set(range(board.many)) if left is None else set(left)
    owners, ranks, moves = board.owners(), board.ranks(), board.moves()
    top = sum(ranks[place] == 1 for place in left) + 1
    numbers = dict.fromkeys(left, 0)
    changed = True
    while changed:
        changed = False
        for place in left:
            onward = [numbers[to] for to in moves[place] if to in left]
            number = min(onward) if owners[place] == 0 else max(onward)
            if ranks[place] == 1:
                number = min(top, number + 1)
            if ranks[place] == 2:
                number = top if number == top else 0
            if number > numbers[place]:
                numbers[place] = number
                changed = True
    return {place: 1 if number == top else 0 for place, number in numbers.items()}


def pulled(board, hand, lot, left=None):
    """The places of what is left from which the hand pulls to the lot, grown until nothing is new."""
    left = set(range(board.many)) if left is None else set(left)
    found = set(lot)
    while True:
        more = set(found)
        for place in left:
            onward = [to in found for to in board.moves()[place] if to in left]
            if any(onward) if board.owners()[place] == hand else all(onward):
                more.add(place)
        if more == found:
            return sorted(found)
        found = more


def peeled(board):
    left = set(range(board.many))
    layers = []
    while True:
        rest = left - set(pulled(board, 0, [place for place in left if board.ranks()[place] == 2], left))
        won = winners_by_lifting(board, rest)
        core = [place for place in rest if won[place] == 1]
        if not core:
            return layers
        layers.append(pulled(board, 1, core, left))
        left -= set(layers[-1])


def is_list(value):
    return type(value) in (list, tuple)


def is_lot(board, value):
    return is_list(value) and all(plain_count(place, board.many) for place in value) \
        and list(value) == sorted(set(value))


def is_partial_plan(board, hand, value):
    """Whether the value is a plan of the hand, perhaps not for all of its places."""
    if not is_list(value):
        return False
    for item in value:
        if type(item) is not tuple or len(item) != 2 or not all(plain_count(part, board.many) for part in item):
            return False
        if board.owners()[item[0]] != hand or item[1] not in board.moves()[item[0]]:
            return False
    return is_lot(board, [item[0] for item in value])


def goes_to(board, hand, plan):
    """For each place to where play along the plan goes; None from a place of the hand that lacks."""
    moves = dict(plan)
    return [(board.moves()[place] if owner != hand else [moves[place]] if place in moves else None)
            for place, owner in enumerate(board.owners())]


def reached(onward, start):
    """All to which one comes from the start by one step or more."""
    come = set()
    waiting = [start]
    while waiting:
        for to in onward[waiting.pop()] or []:
            if to not in come:
                come.add(to)
                waiting.append(to)
    return come


def comes_round(board, onward, place, hand):
    """Whether the hand loses on some ring on which the place has the greatest rank."""
    rank = board.ranks()[place]
    if rank % 2 == hand:
        return False
    low = [[to for to in steps or [] if board.ranks()[to] <= rank] for steps in onward]
    return place in reached(low, place)


def plan_wins(board, hand, plan):
    onward = goes_to(board, hand, plan)
    bad = {place for place in range(board.many) if onward[place] is None or comes_round(board, onward, place, hand)}
    return [place for place in range(board.many) if not bad & (reached(onward, place) | {place})]


def missing(board, hand, place, plan):
    """The rising list of the hand's places that lack in the plan, as far as play along it comes there."""
    onward = goes_to(board, hand, plan)
    return sorted(at for at in reached(onward, place) | {place} if onward[at] is None)


def is_play(board, value):
    if type(value) is not tuple or len(value) != 2 or not is_list(value[0]) or not is_list(value[1]):
        return False
    gone = list(value[0]) + list(value[1]) + list(value[1])[:1]
    if not value[1] or not all(plain_count(place, board.many) for place in gone):
        return False
    return all(two in board.moves()[one] for one, two in zip(gone, gone[1:]))


def goes_along(board, hand, plan, play):
    """Whether the play leaves the hand's places by the plan."""
    gone = list(play[0]) + list(play[1]) + list(play[1])[:1]
    moves = dict(plan)
    return all(moves.get(one) == two for one, two in zip(gone, gone[1:]) if board.owners()[one] == hand)


def is_win_paper(board, hand, value):
    if type(value) is not tuple or len(value) != 3:
        return False
    lot, plan, numbers = value
    if not is_lot(board, lot) or not lot or not is_partial_plan(board, hand, plan):
        return False
    if [item[0] for item in plan] != [place for place in lot if board.owners()[place] == hand]:
        return False
    if not is_list(numbers) or len(numbers) != len(lot):
        return False
    for number in numbers:
        parts = [number] if hand == 0 else number if type(number) is tuple and len(number) == 2 else [None]
        if not all(plain_count(part, 10 ** 40) for part in parts):
            return False
    told, onward = dict(zip(lot, numbers)), goes_to(board, hand, plan)
    return all(to in told and falls(board, hand, place, told[place], told[to])
               for place in lot for to in onward[place])


def falls(board, hand, place, number, behind):
    rank = board.ranks()[place]
    if hand == 0:
        return {0: behind <= number, 1: behind < number, 2: True}[rank]
    (a, b), (c, d) = number, behind
    if rank == 2:
        return c < a
    return c <= a and not (rank == 0 and c == a and d >= b)
