"""Pulling places to a lot, and peeling layers off a board, with the moves by which each hand wins [4a3], [4a5]."""

from tworivals.graphs import turned_round


class Ground:
    """What a board is made of, and from where one comes to each place; nothing of it is changed."""

    def __init__(self, owners, ranks, moves):
        self.owner_of = owners
        self.rank_of = ranks
        self.moves_of = moves
        self.sources_of = turned_round(moves)


def ground_of(board):
    """The Ground of the board."""
    return Ground(board.owners(), board.ranks(), board.moves())


def pull(ground, left, hand, lot):
    """A dict of the places from which the hand pulls to the lot, in what is left.

    It tells for the hand's own ones, outside of the lot, a move by which it pulls, for others None.
    """
    found = {place: None for place in lot}
    waiting = list(lot)
    free = {}
    while waiting:
        to = waiting.pop()
        for place in ground.sources_of[to]:
            if not left[place] or place in found:
                continue
            if ground.owner_of[place] != hand:
                if place not in free:
                    free[place] = len([move for move in ground.moves_of[place] if left[move]])
                free[place] -= 1
                if free[place] > 0:
                    continue
            found[place] = to if ground.owner_of[place] == hand else None
            waiting.append(place)
    return found


def peel(ground):
    """The tuple of the list of layers, of hand 0's winning moves and of hand 1's, dicts: for own places a move."""
    left = [True] * len(ground.owner_of)
    layers = []
    second = {}
    while True:
        first, core, inner = _core(ground, left)
        if not core:
            return layers, first, second
        layer = pull(ground, left, 1, core)
        second.update(_pulling(layer))
        second.update(inner)
        layers.append(sorted(layer))
        left = _without(left, layer)


def _core(ground, left):
    """Of what is left: hand 0's moves, the places from which hand 1 wins without rank 2, and its moves there.

    Hand 0's moves are for all its other places; they win if there is no core.
    """
    top = [place for place in _places(left) if ground.rank_of[place] == 2]
    away = pull(ground, left, 0, top)
    first = _moves_into(ground, left, 0, top)
    first.update(_pulling(away))
    rest = _without(left, away)
    while True:
        marks = [place for place in _places(rest) if ground.rank_of[place] == 1]
        drawn = pull(ground, rest, 1, marks)
        safe = _without(rest, drawn)
        held = pull(ground, rest, 0, _places(safe))
        if not held:
            inner = _moves_into(ground, rest, 1, marks)
            inner.update(_pulling(drawn))
            return first, _places(rest), inner
        first.update(_moves_into(ground, safe, 0, _places(safe)))
        first.update(_pulling(held))
        rest = _without(rest, held)


def _pulling(found):
    return {place: move for place, move in found.items() if move is not None}


def _moves_into(ground, lot, hand, places):
    """For the hand's own ones of the places a move into the lot, which each of them has."""
    own = [place for place in places if ground.owner_of[place] == hand]
    return {place: [move for move in ground.moves_of[place] if lot[move]][0] for place in own}


def _places(left):
    return [place for place, there in enumerate(left) if there]


def _without(left, gone):
    return [there and place not in gone for place, there in enumerate(left)]
