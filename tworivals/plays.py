"""Letter plays: the foe names letters, hand 0 takes ways; who wins them, with papers of both [5a]."""

from tworivals.basics import is_below, is_count, is_list, is_pair, is_rising
from tworivals.boards import Board
from tworivals.breaks import coming_standings
from tworivals.graphs import most_worth
from tworivals.named import named_places
from tworivals.peeling import winners
from tworivals.positions import FIRST_POSITION, is_position, steps_by
from tworivals.pulls import Ground, peel
from tworivals.readers import check_reader


def letter_board(reader):
    """The tuple of the letter board and of the list of the names of its places."""
    check_reader(reader)
    # Too many standings are told ahead of too many places.
    coming_standings(reader)
    names, moves = named_places(("foe", *FIRST_POSITION, 0), lambda name: _goals(reader, name))
    owners = [1 if name[0] == "foe" else 0 for name in names]
    ranks = [name[3] if name[0] == "foe" else 0 for name in names]
    return Board(owners, ranks, moves), names


def has_chooser(reader):
    """Whether the reader has a chooser."""
    board, _ = letter_board(reader)
    return winners(board)[0] == 0


def chooser_paper(reader):
    """A chooser paper, None if there is none."""
    told = _winning_moves(reader, 0)
    if told is None:
        return None

    def goals_of(position):
        return [told[_choice(position, letter)] for letter in range(reader.letters)]

    positions, numbers = _coming(lambda position: [goal[1:3] for goal in goals_of(position)])
    most = most_worth([[(numbers[goal[1:3]], goal[3]) for goal in goals_of(position) if goal[3] < 2]
                       for position in positions])
    return sorted([(position, _ways_to(reader, position, goals_of(position)), most[at])
                   for at, position in enumerate(positions)])


def foe_paper(reader):
    """A foe paper, None if there is none."""
    told = _winning_moves(reader, 1)
    if told is None:
        return None
    letters = {name[1:]: goal[3] for name, goal in told.items() if name[0] == "position"}

    def steps_of(position):
        return steps_by(reader, position, letters[position])

    positions, numbers = _coming(lambda position: [to for _, to, _, _ in steps_of(position)])
    steps = [[(numbers[to], slip, breaks) for _, to, slip, breaks in steps_of(position)] for position in positions]
    broken = most_worth([[(to, 1 if breaks else 0) for to, _, breaks in onward] for onward in steps])
    clean = most_worth([[(to, 1) for to, slip, _ in onward if slip == 0 and broken[to] == broken[at]]
                        for at, onward in enumerate(steps)])
    return sorted([(position, letters[position], (broken[at], clean[at])) for at, position in enumerate(positions)])


def is_chooser_paper(reader, value):
    """Whether the value is a chooser paper."""
    check_reader(reader)
    if not is_list(value) or not all([_is_told_choice(reader, item) for item in value]):
        return False
    if not is_rising([item[0] for item in value]):
        return False
    numbers = {position: number for position, _, number in value}
    if FIRST_POSITION not in numbers:
        return False
    return all([_keeps(reader, numbers, position, ways) for position, ways, _ in value])


def is_foe_paper(reader, value):
    """Whether the value is a foe paper."""
    check_reader(reader)
    if not is_list(value) or not all([_is_told_letter(reader, item) for item in value]):
        return False
    if not is_rising([item[0] for item in value]):
        return False
    pairs = {position: pair for position, _, pair in value}
    if FIRST_POSITION not in pairs:
        return False
    return all([_spoils(reader, pairs, position, letter) for position, letter, _ in value])


def _goals(reader, name):
    """The names of the places to which one goes from the place of this name."""
    if name[0] == "foe":
        return [_choice(name[1:3], letter) for letter in range(reader.letters)]
    steps = steps_by(reader, name[1:3], name[3])
    return [_place_behind(to, slip, breaks) for _, to, slip, breaks in steps]


def _choice(position, letter):
    """The name of the place where hand 0 takes a way by the letter."""
    return "choice", *position, letter


def _place_behind(position, slip, breaks):
    """The name of the foe's place to which a way leads."""
    return "foe", *position, 2 if breaks else slip


def _winning_moves(reader, hand):
    """A dict: for names of places of the hand that of its winning move; None if it doesn't win.

    The foe names a letter at places ("position", room, standing), to which its other ones lead: so its letter
    doesn't hang on how it came there.
    """
    board, names = letter_board(reader)
    owners, ranks, moves = board.owners(), board.ranks(), board.moves()
    places = {}
    for at, name in enumerate(list(names)):
        if name[0] != "foe":
            continue
        if name[1:3] not in places:
            places[name[1:3]] = len(names)
            names.append(("position", *name[1:3]))
            owners.append(1)
            ranks.append(0)
            moves.append(moves[at])
        moves[at] = [places[name[1:3]]]
    layers, first, second = peel(Ground(owners, ranks, moves))
    winner = 1 if any([0 in layer for layer in layers]) else 0
    if winner != hand:
        return None
    own = first if hand == 0 else second
    return {names[place]: names[to] for place, to in own.items()}


def _coming(positions_of):
    """The tuple of the list of the positions that come, and of a dict of their places in it."""
    positions, _ = named_places(FIRST_POSITION, positions_of)
    return positions, {position: at for at, position in enumerate(positions)}


def _ways_to(reader, position, goals):
    """For each letter the number of a way from the position that leads to the foe's place of the name goal."""
    ways = []
    for letter, goal in enumerate(goals):
        steps = steps_by(reader, position, letter)
        ways.append([way for way, to, slip, breaks in steps if _place_behind(to, slip, breaks) == goal][0])
    return ways


def _is_told_choice(reader, value):
    if not isinstance(value, tuple) or len(value) != 3 or not is_position(reader.rooms, reader, value[0]):
        return False
    (room, _), ways, number = value
    if not is_list(ways) or not is_count(number):
        return False
    if not all([is_below(way, reader.many) for way in ways]):
        return False
    return [reader.way(way)[:2] for way in ways] == [(room, letter) for letter in range(reader.letters)]


def _is_told_letter(reader, value):
    if not isinstance(value, tuple) or len(value) != 3 or not is_position(reader.rooms, reader, value[0]):
        return False
    _, letter, pair = value
    return is_below(letter, reader.letters) and is_pair(pair) and is_count(pair[0]) and is_count(pair[1])


def _keeps(reader, numbers, position, ways):
    """Whether the ways lead to positions with numbers that are as small as they have to be."""
    for letter, chosen in enumerate(ways):
        for way, to, slip, breaks in steps_by(reader, position, letter):
            if way != chosen:
                continue
            if to not in numbers or (not breaks and numbers[to] > numbers[position] - slip):
                return False
    return True


def _spoils(reader, pairs, position, letter):
    """Whether all ways by the letter lead to positions with pairs that are as small as they have to be."""
    a, b = pairs[position]
    for _, to, slip, breaks in steps_by(reader, position, letter):
        if to not in pairs:
            return False
        c, d = pairs[to]
        if c > a or (c == a and (breaks or (slip == 0 and d >= b))):
            return False
    return True
