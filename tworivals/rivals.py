"""Games of the first hand against one, two or three rivals, who see its ways ahead of their own [6a]."""

from tworivals.basics import is_below, is_count, is_list, is_pair
from tworivals.boards import Board
from tworivals.checks import check_letter
from tworivals.errors import InvalidMany, InvalidState, InvalidWay, InvalidWays
from tworivals.measures import is_win_paper, win_paper
from tworivals.named import in_sequence, named_places
from tworivals.peeling import winners
from tworivals.readers import check_reader

MOST_RIVALS = 3


def turned(reader, state, letter, way, ways):
    """The tuple of the state behind the turn, and of its rank."""
    check_reader(reader)
    if not _is_state(reader, state):
        raise InvalidState(state)
    check_letter(reader.letters, letter)
    room, rooms, flag = state
    if not _is_way_by(reader, room, letter, way):
        raise InvalidWay(way)
    if not is_list(ways) or len(ways) != len(rooms):
        raise InvalidWays(ways)
    if not all([_is_way_by(reader, rooms[at], letter, number) for at, number in enumerate(ways)]):
        raise InvalidWays(ways)
    _, _, to, slip = reader.way(way)
    return _behind(to, flag, slip, [reader.way(number)[2:] for number in ways])


def rival_board(reader, many):
    """The tuple of the board against so many rivals, and of the list of the names of its places."""
    check_reader(reader)
    _check_rivals(many)
    names, moves = named_places(_first_place(many), lambda name: _goals(reader, name))
    names, moves = in_sequence(names, moves)
    owners = [0 if name[0] == "first" else 1 for name in names]
    ranks = [name[2] if name[0] == "foe" else 0 for name in names]
    return Board(owners, ranks, moves), names


def wins_rivals(reader, many):
    """Whether the first hand wins against so many rivals."""
    board, names = rival_board(reader, many)
    return winners(board)[names.index(_first_place(many))] == 0


def rivals_paper(reader, many):
    """A rivals paper: a tuple of the hand that wins, and of a win paper of it."""
    board, names = rival_board(reader, many)
    hand = winners(board)[names.index(_first_place(many))]
    return hand, win_paper(board, hand)


def is_rivals_paper(reader, many, value):
    """Whether the value is a rivals paper."""
    board, names = rival_board(reader, many)
    if not is_pair(value) or not is_below(value[0], 2) or not is_win_paper(board, value[0], value[1]):
        return False
    return names.index(_first_place(many)) in value[1][0]


def _check_rivals(many):
    """Only a number of rivals passes."""
    if not is_count(many) or not 1 <= many <= MOST_RIVALS:
        raise InvalidMany(many)


def _first_place(many):
    return "foe", (0, (0,) * many, 0), 0


def _is_state(reader, value):
    if not isinstance(value, tuple) or len(value) != 3:
        return False
    room, rooms, flag = value
    if not isinstance(rooms, tuple) or not 1 <= len(rooms) <= MOST_RIVALS or not is_below(flag, len(rooms)):
        return False
    return all([is_below(one, reader.rooms) for one in (room, *rooms)])


def _is_way_by(reader, room, letter, value):
    return is_below(value, reader.many) and reader.way(value)[:2] == (room, letter)


def _goals(reader, name):
    """The names of the places to which one goes from the place of this name."""
    if name[0] == "foe":
        return [("first", name[1], letter) for letter in range(reader.letters)]
    if name[0] == "first":
        _, (room, rooms, flag), letter = name
        return [("rivals", (to, rooms, flag), slip, letter) for to, slip in _ends(reader, room, letter)]
    _, (room, rooms, flag), slip, letter = name
    turns = [_behind(room, flag, slip, ends) for ends in _rows_of_ends(reader, rooms, letter)]
    return [("foe", state, rank) for state, rank in turns]


def _ends(reader, room, letter):
    """The list of the tuples (room to which it leads, slip) of the ways by the letter from the room."""
    return [reader.way(number)[2:] for number in reader.ways_by(room, letter)]


def _rows_of_ends(reader, rooms, letter):
    """The list of all tuples of such tuples, one for each of the rooms."""
    rows = [()]
    for room in rooms:
        ends = _ends(reader, room, letter)
        rows = [row + (end,) for row in rows for end in ends]
    return rows


def _behind(room, flag, slip, ends):
    """The tuple of the state behind a turn, and of its rank.

    The first hand has come to the room, slip tells whether it slipped; ends tell the same of the rivals.
    """
    rooms = tuple([to for to, _ in ends])
    while flag < len(ends) and ends[flag][1] == 1:
        flag += 1
    if flag == len(ends):
        return (room, rooms, 0), 2
    return (room, rooms, flag), slip
