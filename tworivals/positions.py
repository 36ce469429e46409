"""Positions: where a chooser stands, with the standing of the break points beside it [6b1]."""

from tworivals.basics import is_below, is_pair
from tworivals.breaks import FIRST_STANDING, gone_on, is_standing

FIRST_POSITION = (0, FIRST_STANDING)


def is_position(rooms, reader, value):
    """Whether the value is a tuple of a room, so many there being, and of a standing of the reader."""
    return is_pair(value) and is_below(value[0], rooms) and is_standing(reader, value[1])


def steps_by(reader, position, letter):
    """The list of the tuples (way, position behind it, slip, whether it breaks) of all ways by the letter."""
    room, standing = position
    behind, breaks = gone_on(reader, standing, letter)
    steps = []
    for number in reader.ways_by(room, letter):
        _, _, to, slip = reader.way(number)
        steps.append((number, (to, behind), slip, breaks))
    return steps
