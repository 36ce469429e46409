"""Boards whose places have names: the places that come from a first one on, and moves by which a hand wins there."""

from tworivals.boards import MOST_PLACES
from tworivals.errors import TooMany
from tworivals.pulls import Ground, peel


def named_places(first, goals_of):
    """The tuple of the list of names, as they come, and of the moves of their places, rising lists of numbers.

    The first name comes first; then, name by name in this sequence, those that goals_of tells of it, if they are new.
    """
    names = [first]
    numbers = {first: 0}
    moves = []
    while len(moves) < len(names):
        goals = goals_of(names[len(moves)])
        for goal in goals:
            if goal not in numbers:
                if len(names) == MOST_PLACES:
                    raise TooMany("places", MOST_PLACES)
                numbers[goal] = len(names)
                names.append(goal)
        moves.append(sorted({numbers[goal] for goal in goals}))
    return names, moves


def in_sequence(names, moves):
    """The same with the names sorted, and the places numbered so."""
    order = sorted([(name, at) for at, name in enumerate(names)])
    numbers = [0] * len(names)
    for number, (_, at) in enumerate(order):
        numbers[at] = number
    return [name for name, _ in order], [sorted([numbers[to] for to in moves[at]]) for _, at in order]


def position_named(name):
    """The position of a place where the foe moves, None if it is another one."""
    return name[1:3] if name[0] == "foe" else None


def winning_moves(ground, names, position_of, hand):
    """The tuple of two dicts of the hand's winning moves, None if it doesn't win from the first place.

    They tell the names of the places to which it moves: the first one of positions, the other one of names of further
    places. position_of tells of a name its position, None if it has none; at a position a hand moves alike, however it
    came there.
    """
    owners, ranks, moves = list(ground.owner_of), list(ground.rank_of), list(ground.moves_of)
    places = {}
    for at, name in enumerate(names):
        position = position_of(name)
        if position is None:
            continue
        if position not in places:
            places[position] = len(owners)
            owners.append(ground.owner_of[at])
            ranks.append(0)
            moves.append(ground.moves_of[at])
        # One goes on from a place of the position's own, so this can't tell from where one came to it.
        moves[at] = [places[position]]
    layers, first, second = peel(Ground(owners, ranks, moves))
    winner = 1 if any([0 in layer for layer in layers]) else 0
    if winner != hand:
        return None
    own = first if hand == 0 else second
    told = {position: names[own[at]] for position, at in places.items() if at in own}
    return told, {name: names[own[at]] for at, name in enumerate(names) if at in own and own[at] < len(names)}
