"""Readers joined: one that lets by what both of two let by, and one that lets by what either of them does [8b]."""

from tworivals.checks import MOST_ROOMS
from tworivals.errors import TooMany
from tworivals.readers import MOST_WAYS, Reader, ways_from
from tworivals.within import check_both


def both_of(reader, other):
    """The reader that lets by exactly the rows that both let by."""
    check_both(reader, other)
    return _joined(reader, other, (0, 0), _step_of_both)


def either_of(reader, other):
    """The reader that lets by exactly the rows that one of both lets by at least."""
    check_both(reader, other)
    return _joined(reader, other, (0, 0, 0), _step_of_either)


def _step_of_both(room, way, beside):
    """The tuple of the room to which one comes from this one by both ways, and of whether that is a slip."""
    return (way[2], beside[2]), max(way[3], beside[3])


def _step_of_either(room, way, beside):
    """As _step_of_both, of a room that tells which of both readers is trusted, too."""
    _, _, trust = room
    slip = (way, beside)[trust][3]
    return (way[2], beside[2], 1 - trust if slip == 1 else trust), slip


def _joined(reader, other, first, step_of):
    """The reader whose rooms begin with a room of each, numbered as they come; step_of tells where ways lead."""
    rooms = [first]
    numbers = {first: 0}
    ways = []
    at = 0
    while at < len(rooms):
        room = rooms[at]
        for letter, way, beside in _pairs_of_ways(reader, other, room):
            to, slip = step_of(room, way, beside)
            if to not in numbers:
                if len(rooms) == MOST_ROOMS:
                    raise TooMany("rooms", MOST_ROOMS)
                numbers[to] = len(rooms)
                rooms.append(to)
            ways.append((at, letter, numbers[to], slip))
        at += 1
    unlike = sorted(set(ways))
    if len(unlike) > MOST_WAYS:
        raise TooMany("ways", MOST_WAYS)
    return Reader(reader.letters, len(rooms), unlike)


def _pairs_of_ways(reader, other, room):
    """The list of the tuples (letter, way of the reader, way of the other one), as they come."""
    return [(letter, way, beside) for letter in range(reader.letters)
            for way in ways_from(reader, room[0], letter) for beside in ways_from(other, room[1], letter)]
