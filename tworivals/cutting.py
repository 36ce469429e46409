"""Cuttings: readers with just some of their ways, and single ones by which the same rows are let by [8b4]."""

from tworivals.basics import are_below, is_rising
from tworivals.errors import InvalidNumbers, TooMany
from tworivals.readers import Reader, check_reader
from tworivals.within import is_within

MOST_CUTTINGS = 1000


def is_cutting(reader, value):
    """Whether the value is a cutting of the reader."""
    check_reader(reader)
    if not are_below(reader.many, value) or not is_rising(value):
        return False
    return len({reader.way(number)[:2] for number in value}) == reader.letters * reader.rooms


def cutting(reader, numbers):
    """The reader cut by these numbers of ways."""
    if not is_cutting(reader, numbers):
        raise InvalidNumbers(numbers)
    return _cut(reader, numbers)


def first_cutting(reader):
    """The first single cutting by which the reader lets by the same rows, None without one."""
    check_reader(reader)
    for numbers in _single_cuttings(reader):
        # A cut reader lets by no further rows, and comes to at most as many standings as it has rooms.
        if is_within(reader, _cut(reader, numbers)):
            return numbers
    return None


def is_one_memory(reader):
    """Whether by some single cutting the reader lets by the same rows."""
    return first_cutting(reader) is not None


def _cut(reader, numbers):
    return Reader(reader.letters, reader.rooms, [reader.way(number) for number in numbers])


def _single_cuttings(reader):
    """The sorted list of all single cuttings."""
    cuttings = [[]]
    for room in range(reader.rooms):
        for letter in range(reader.letters):
            chosen = reader.ways_by(room, letter)
            # Further rooms and letters only add to these.
            if len(cuttings) * len(chosen) > MOST_CUTTINGS:
                raise TooMany("cuttings", MOST_CUTTINGS)
            cuttings = [numbers + [number] for numbers in cuttings for number in chosen]
    return cuttings
