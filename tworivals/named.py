"""Boards whose places have names: the places that come from a first one on, as far as there are not too many."""

from tworivals.boards import MOST_PLACES
from tworivals.errors import TooMany


def named_places(first, goals_of):
    """The tuple of the list of names, as they come, and of the moves of their places, rising lists of numbers.

    The first name comes first; then, name by name in this sequence, those that goals_of tells of it, if they are new.
    """
    names = [first]
    numbers = {first: 0}
    moves = []
    while len(moves) < len(names):
        goals = goals_of(names[len(moves)])
        for goal in goals:
            if goal not in numbers:
                if len(names) == MOST_PLACES:
                    raise TooMany("places", MOST_PLACES)
                numbers[goal] = len(names)
                names.append(goal)
        moves.append(sorted({numbers[goal] for goal in goals}))
    return names, moves


def in_sequence(names, moves):
    """The same with the names sorted, and the places numbered so."""
    order = sorted([(name, at) for at, name in enumerate(names)])
    numbers = [0] * len(names)
    for number, (_, at) in enumerate(order):
        numbers[at] = number
    return [name for name, _ in order], [sorted([numbers[to] for to in moves[at]]) for _, at in order]
