"""Spots, clean rings, and heights: papers of what rows are let by [2b]."""

from tworivals.basics import is_below, is_list, is_rising
from tworivals.checks import check_row
from tworivals.leads import FIRST_SPOT, clean_numbers, clean_round, coming_leads, leads_from
from tworivals.readers import check_reader

TOO_HIGH = 10000000


def spots(reader, row):
    """The sorted list of the coming spots."""
    check_reader(reader)
    check_row(reader.letters, row)
    return sorted(coming_leads(reader, row))


def clean_ring(reader, row):
    """A list of coming spots, from each of which a clean way leads to the next, round; None if there is none."""
    check_reader(reader)
    check_row(reader.letters, row)
    trail = clean_round(coming_leads(reader, row))
    if trail is None:
        return None
    return [spot for spot, _ in trail]


def least_heights(reader, row):
    """The least heights for the row, None if it is let by."""
    check_reader(reader)
    check_row(reader.letters, row)
    leads = coming_leads(reader, row)
    numbers = clean_numbers(leads)
    if len(numbers) < len(leads):
        return None
    return [(position, room, numbers[(position, room)]) for position, room in sorted(numbers)]


def height_paper(reader, row):
    """Heights for the row, None if it is let by."""
    return least_heights(reader, row)


def is_height_paper(reader, row, value):
    """Whether the value is heights for the row."""
    check_reader(reader)
    check_row(reader.letters, row)
    if not is_list(value) or not all([_is_height(reader, row, height) for height in value]):
        return False
    numbers = {(position, room): number for position, room, number in value}
    if not is_rising(value) or len(numbers) < len(value) or FIRST_SPOT not in numbers:
        return False
    return all([_falls(reader, row, numbers, spot) for spot in numbers])


def _is_height(reader, row, value):
    if not isinstance(value, tuple) or len(value) != 3:
        return False
    position, room, number = value
    positions = len(row[0]) + len(row[1])
    return is_below(position, positions) and is_below(room, reader.rooms) and is_below(number, TOO_HIGH)


def _falls(reader, row, numbers, spot):
    """Whether all ways from the spot lead to spots with numbers, and clean ones to lesser numbers."""
    for _, slip, to in leads_from(reader, row, spot):
        if to not in numbers or (slip == 0 and numbers[to] >= numbers[spot]):
            return False
    return True
