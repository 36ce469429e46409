"""Letter plays: the foe names letters, hand 0 takes ways; who wins them, with papers of both [5a]."""

from tworivals.basics import are_told, is_below, is_count, is_list, is_pair
from tworivals.boards import Board
from tworivals.breaks import coming_standings
from tworivals.graphs import least_pairs, most_worth, numbered
from tworivals.named import named_places, position_named, winning_moves
from tworivals.peeling import winners
from tworivals.positions import FIRST_POSITION, is_position, steps_by
from tworivals.pulls import ground_of
from tworivals.readers import check_reader


def letter_board(reader):
    """The tuple of the letter board and of the list of the names of its places."""
    check_reader(reader)
    # Too many standings are told ahead of too many places.
    coming_standings(reader)
    names, moves = named_places(("foe", *FIRST_POSITION, 0), lambda name: _goals(reader, name))
    owners = [1 if name[0] == "foe" else 0 for name in names]
    ranks = [name[3] if name[0] == "foe" else 0 for name in names]
    return Board(owners, ranks, moves), names


def has_chooser(reader):
    """Whether the reader has a chooser."""
    board, _ = letter_board(reader)
    return winners(board)[0] == 0


def chooser_paper(reader):
    """A chooser paper, None if there is none."""
    told = _winning_moves(reader, 0)
    if told is None:
        return None
    _, goals = told

    def goals_of(position):
        return [goals[_choice(position, letter)] for letter in range(reader.letters)]

    positions, steps = numbered(FIRST_POSITION, lambda position: [(goal[1:3], goal[3]) for goal in goals_of(position)])
    most = most_worth([[(to, rank) for to, rank in onward if rank < 2] for onward in steps])
    return sorted([(position, _ways_to(reader, position, goals_of(position)), most[at])
                   for at, position in enumerate(positions)])


def foe_paper(reader):
    """A foe paper, None if there is none."""
    told = _winning_moves(reader, 1)
    if told is None:
        return None
    goals, _ = told
    letters = {position: goal[3] for position, goal in goals.items()}

    def steps_of(position):
        return [(to, 1 if breaks else 0, 1 - slip)
                for _, to, slip, breaks in steps_by(reader, position, letters[position])]

    positions, steps = numbered(FIRST_POSITION, steps_of)
    pairs = least_pairs(steps)
    return sorted([(position, letters[position], pairs[at]) for at, position in enumerate(positions)])


def is_chooser_paper(reader, value):
    """Whether the value is a chooser paper."""
    check_reader(reader)
    if not are_told(value, lambda item: _is_told_choice(reader, item)):
        return False
    numbers = {position: number for position, _, number in value}
    if FIRST_POSITION not in numbers:
        return False
    return all([_keeps(reader, numbers, position, ways) for position, ways, _ in value])


def is_foe_paper(reader, value):
    """Whether the value is a foe paper."""
    check_reader(reader)
    if not are_told(value, lambda item: _is_told_letter(reader, item)):
        return False
    pairs = {position: pair for position, _, pair in value}
    if FIRST_POSITION not in pairs:
        return False
    return all([_spoils(reader, pairs, position, letter) for position, letter, _ in value])


def _goals(reader, name):
    """The names of the places to which one goes from the place of this name."""
    if name[0] == "foe":
        return [_choice(name[1:3], letter) for letter in range(reader.letters)]
    steps = steps_by(reader, name[1:3], name[3])
    return [_place_behind(to, slip, breaks) for _, to, slip, breaks in steps]


def _choice(position, letter):
    """The name of the place where hand 0 takes a way by the letter."""
    return "choice", *position, letter


def _place_behind(position, slip, breaks):
    """The name of the foe's place to which a way leads."""
    return "foe", *position, 2 if breaks else slip


def _winning_moves(reader, hand):
    """The hand's winning moves at positions and elsewhere, None if it doesn't win.

    The foe's letter doesn't hang on how one came to a position.
    """
    board, names = letter_board(reader)
    return winning_moves(ground_of(board), names, position_named, hand)


def _ways_to(reader, position, goals):
    """For each letter the number of a way from the position that leads to the foe's place of the name goal."""
    ways = []
    for letter, goal in enumerate(goals):
        steps = steps_by(reader, position, letter)
        ways.append([way for way, to, slip, breaks in steps if _place_behind(to, slip, breaks) == goal][0])
    return ways


def _is_told_choice(reader, value):
    if not isinstance(value, tuple) or len(value) != 3 or not is_position(reader.rooms, reader, value[0]):
        return False
    (room, _), ways, number = value
    if not is_list(ways) or not is_count(number):
        return False
    if not all([is_below(way, reader.many) for way in ways]):
        return False
    return [reader.way(way)[:2] for way in ways] == [(room, letter) for letter in range(reader.letters)]


def _is_told_letter(reader, value):
    if not isinstance(value, tuple) or len(value) != 3 or not is_position(reader.rooms, reader, value[0]):
        return False
    _, letter, pair = value
    return is_below(letter, reader.letters) and is_pair(pair) and is_count(pair[0]) and is_count(pair[1])


def _keeps(reader, numbers, position, ways):
    """Whether the ways lead to positions with numbers that are as small as they have to be."""
    for letter, chosen in enumerate(ways):
        for way, to, slip, breaks in steps_by(reader, position, letter):
            if way != chosen:
                continue
            if to not in numbers or (not breaks and numbers[to] > numbers[position] - slip):
                return False
    return True


def _spoils(reader, pairs, position, letter):
    """Whether all ways by the letter lead to positions with pairs that are as small as they have to be."""
    a, b = pairs[position]
    for _, to, slip, breaks in steps_by(reader, position, letter):
        if to not in pairs:
            return False
        c, d = pairs[to]
        if c > a or (c == a and (breaks or (slip == 0 and d >= b))):
            return False
    return True
