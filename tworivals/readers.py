"""Readers: who goes through rooms by ways, letter by letter [6], [1b]."""

from tworivals.basics import is_below, is_list
from tworivals.checks import check_letter, check_letters, check_room, check_rooms
from tworivals.errors import InvalidOrder, InvalidReader, InvalidWay, InvalidWays

MOST_WAYS = 96


def _is_way(letters, rooms, value):
    if not isinstance(value, tuple) or len(value) != 4:
        return False
    room, letter, to, slip = value
    return is_below(room, rooms) and is_below(letter, letters) and is_below(to, rooms) and is_below(slip, 2)


def are_ways(letters, rooms, value):
    """Whether the value is a list of the ways of a reader of so many letters and rooms."""
    if not is_list(value) or len(value) > MOST_WAYS:
        return False
    if not all([_is_way(letters, rooms, way) for way in value]):
        return False
    if len(set(value)) < len(value):
        return False
    return len({way[:2] for way in value}) == letters * rooms


class Reader:
    """A reader of endless rows; it never changes."""

    def __init__(self, letters, rooms, ways):
        check_letters(letters)
        check_rooms(rooms)
        if not are_ways(letters, rooms, ways):
            raise InvalidWays(ways)
        self._letters = letters
        self._rooms = rooms
        self._ways = sorted(ways)
        self._numbers = {(room, letter): [] for room in range(rooms) for letter in range(letters)}
        for number, way in enumerate(self._ways):
            self._numbers[way[:2]].append(number)

    def __eq__(self, other):
        return (isinstance(other, Reader) and self._letters == other._letters and self._rooms == other._rooms
                and self._ways == other._ways)

    @property
    def letters(self):
        """How many letters there are."""
        return self._letters

    @property
    def rooms(self):
        """How many rooms there are."""
        return self._rooms

    @property
    def many(self):
        """How many ways there are."""
        return len(self._ways)

    def ways(self):
        """The sorted list of the ways."""
        return list(self._ways)

    def way(self, number):
        """The way of this number."""
        if not is_below(number, len(self._ways)):
            raise InvalidWay(number)
        return self._ways[number]

    def ways_by(self, room, letter):
        """The rising list of the numbers of the ways from the room by the letter."""
        check_room(self._rooms, room)
        check_letter(self._letters, letter)
        return list(self._numbers[(room, letter)])


def check_reader(reader):
    """Only a Reader passes."""
    if not isinstance(reader, Reader):
        raise InvalidReader(reader)


def ways_from(reader, room, letter):
    """The list of the ways from the room by the letter."""
    return [reader.way(number) for number in reader.ways_by(room, letter)]


def is_single(reader):
    """Whether no room has a choice by any letter."""
    check_reader(reader)
    # There is a way at least for each room and letter.
    return reader.many == reader.letters * reader.rooms


def renamed(reader, order):
    """The reader whose room p is what was the order's entry p."""
    check_reader(reader)
    if not _is_order(reader, order):
        raise InvalidOrder(order)
    place = {room: at for at, room in enumerate(order)}
    ways = [(place[room], letter, place[to], slip) for room, letter, to, slip in reader.ways()]
    return Reader(reader.letters, reader.rooms, ways)


def _is_order(reader, value):
    if not is_list(value) or not all([is_below(room, reader.rooms) for room in value]):
        return False
    return len(value) == reader.rooms and len(set(value)) == reader.rooms and value[0] == 0
