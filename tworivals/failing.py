"""Wishes all of whose plays are let by, and hand 1's wins against their stand-ins, with papers of both [7b]."""

from tworivals.basics import are_told, is_below, is_pair
from tworivals.breaks import coming_standings, gone_on, is_standing
from tworivals.graphs import fewest_between, most_worth, numbered, parts_of
from tworivals.named import winning_moves
from tworivals.pulls import Ground
from tworivals.readers import ways_from
from tworivals.wishes import FIRST_STAND_IN, UNNAMED, check_wish_of, is_move, stand_in_goals, stand_in_owner

FIRST_PAIR = (0, ((0,), (0,)))
FIRST_STAND = (0, 0)
TOO_GREAT = 10000000


def is_all_let(reader, wish):
    """Whether the row of each play of the wish is let by."""
    return let_paper(reader, wish) is not None


def let_paper(reader, wish):
    """A let paper, None if the wish isn't all let."""
    check_wish_of(reader, wish)
    pairs, steps = _let_steps(reader, wish)
    numbers = most_worth([[(to, breaks) for to, _, breaks in onward] for onward in steps])
    if numbers is None:
        return None
    return sorted([(pair, numbers[at]) for at, pair in enumerate(pairs)])


def is_let_paper(reader, wish, value):
    """Whether the value is a let paper."""
    check_wish_of(reader, wish)
    if not are_told(value, lambda item: _is_numbered_pair(reader, wish, item)):
        return False
    numbers = {pair: number for pair, number in value}
    moves = wish.moves()
    return FIRST_PAIR in numbers and all([_holds(reader, moves, numbers, pair) for pair in numbers])


def barred_play(reader, wish):
    """A play, of whatever length, whose row isn't let by, None if the wish is all let."""
    check_wish_of(reader, wish)
    _, steps = _let_steps(reader, wish)
    leads = [[to for to, _, _ in onward] for onward in steps]
    parts = parts_of(leads)
    ringed = [(node, to, move) for node, onward in enumerate(steps) for to, move, breaks in onward
              if breaks == 1 and parts[to] == parts[node]]
    if not ringed:
        return None
    node, to, move = ringed[0]
    head = [] if node == 0 else _moves_between(steps, leads, 0, node)
    back = [] if to == node else _moves_between(steps, leads, to, node)
    return head, [move] + back


def spoil_paper(reader, wish):
    """A spoil paper, None if hand 0 wins the stand-in."""
    check_wish_of(reader, wish)
    goals = _spoiling_goals(reader, wish)
    if goals is None:
        return None
    owners = wish.owners()
    moves = wish.moves()
    told = {stand: (goal[2], goal[0]) for stand, goal in goals.items()}

    def steps_of(stand):
        chosen = [told[stand]] if owners[stand[0]] == 1 else moves[stand[0]]
        return _stand_steps(reader, stand, chosen)

    stands, steps = numbered(FIRST_STAND, steps_of)
    numbers = most_worth([[(to, 1) for to, slip in onward if slip == 0] for onward in steps])
    return sorted([(stand, told[stand] if owners[stand[0]] == 1 else None, numbers[at])
                   for at, stand in enumerate(stands)])


def is_spoil_paper(reader, wish, value):
    """Whether the value is a spoil paper."""
    check_wish_of(reader, wish)
    if not are_told(value, lambda item: _is_told_stand(reader, wish, item)):
        return False
    numbers = {stand: number for stand, _, number in value}
    if FIRST_STAND not in numbers:
        return False
    moves = wish.moves()
    for stand, move, number in value:
        chosen = moves[stand[0]] if move is None else [move]
        for to, slip in _stand_steps(reader, stand, chosen):
            if to not in numbers or (slip == 0 and numbers[to] >= number):
                return False
    return True


def _let_steps(reader, wish):
    """The pairs (place, standing) that come, and from each the steps (number of a pair, move, whether it breaks)."""
    onward = coming_standings(reader)
    moves = wish.moves()

    def steps_of(pair):
        place, standing = pair
        steps = [(move, onward[standing][move[0]]) for move in moves[place]]
        return [((move[1], behind), move, 1 if breaks else 0) for move, (behind, breaks) in steps]

    return numbered(FIRST_PAIR, steps_of)


def _moves_between(steps, leads, start, goal):
    """The list of the moves of the fewest steps from start to another pair."""
    nodes = fewest_between(leads, start, goal) + [goal]
    return [[move for to, move, _ in steps[node] if to == nodes[at + 1]][0] for at, node in enumerate(nodes[:-1])]


def _spoiling_goals(reader, wish):
    """For each (place, room) the tuple of the stand-in's place to which hand 1 moves, None if it doesn't win."""
    owners = wish.owners()
    moves = wish.moves()
    names, steps = numbered(FIRST_STAND_IN, lambda name: [(goal,) for goal in stand_in_goals(reader, moves, name)])
    ground = Ground([stand_in_owner(owners, name) for name in names], [name[3] for name in names],
                    [sorted({step[0] for step in onward}) for onward in steps])
    told = winning_moves(ground, names, lambda name: name[:2] if name[2] == UNNAMED else None, 1)
    return None if told is None else told[0]


def _stand_steps(reader, stand, moves):
    """The list of the tuples ((place, room), slip) to which one comes by each of the moves, by each way."""
    _, room = stand
    return [((to, at), slip) for letter, to in moves for _, _, at, slip in ways_from(reader, room, letter)]


def _is_small(value):
    """Whether the value is a COUNT of at most seven digits."""
    return is_below(value, TOO_GREAT)


def _is_numbered_pair(reader, wish, value):
    if not is_pair(value) or not is_pair(value[0]) or not _is_small(value[1]):
        return False
    place, standing = value[0]
    return is_below(place, wish.many) and is_standing(reader, standing)


def _is_told_stand(reader, wish, value):
    if not isinstance(value, tuple) or len(value) != 3 or not is_pair(value[0]):
        return False
    (place, room), move, number = value
    if not is_below(place, wish.many) or not is_below(room, reader.rooms) or not _is_small(number):
        return False
    return move is None if wish.owners()[place] == 0 else is_move(wish, place, move)


def _holds(reader, moves, numbers, pair):
    """Whether all moves lead to pairs with numbers that are as small as they have to be."""
    place, standing = pair
    for letter, to in moves[place]:
        behind, breaks = gone_on(reader, standing, letter)
        most = numbers[pair] - 1 if breaks else numbers[pair]
        if (to, behind) not in numbers or numbers[(to, behind)] > most:
            return False
    return True
