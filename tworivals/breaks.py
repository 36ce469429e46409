"""Break points: what is known of all runs together, and whether a row breaks it for ever [3a]."""

from tworivals.basics import is_below, is_pair, is_rising
from tworivals.checks import check_letter, check_row, check_word
from tworivals.errors import InvalidStanding, TooMany
from tworivals.readers import check_reader

FIRST_STANDING = ((0,), (0,))
MOST_STANDINGS = 400


def next_standing(reader, standing, letter):
    """The tuple of the standing to which this goes on by the letter, and of whether it breaks."""
    check_reader(reader)
    if not is_standing(reader, standing):
        raise InvalidStanding(standing)
    check_letter(reader.letters, letter)
    return gone_on(reader, standing, letter)


def standing_behind(reader, word):
    """The tuple of the standing behind the word, and of how often it broke."""
    check_reader(reader)
    check_word(reader.letters, word)
    return _gone_along(reader, FIRST_STANDING, word)


def standings(reader):
    """The sorted list of the standings that come."""
    check_reader(reader)
    return sorted(coming_standings(reader))


def break_table(reader):
    """For each standing that comes the list, by letters, of (position of the next one, whether it breaks)."""
    check_reader(reader)
    steps = coming_standings(reader)
    ordered = sorted(steps)
    position = {standing: at for at, standing in enumerate(ordered)}
    return [[(position[to], breaks) for to, breaks in steps[standing]] for standing in ordered]


def lets_by_breaks(reader, row):
    """Whether the standings break finitely often along the row."""
    check_reader(reader)
    check_row(reader.letters, row)
    begin, again = row
    standing, broken = _gone_along(reader, FIRST_STANDING, begin)
    ahead = {}
    while standing not in ahead:
        ahead[standing] = broken
        standing, more = _gone_along(reader, standing, again)
        broken += more
    return broken == ahead[standing]


def is_standing(reader, value):
    """Whether the value is a standing of the reader, whether it comes or not."""
    if not is_pair(value) or not _are_rooms(reader, value[0]) or not _are_rooms(reader, value[1]):
        return False
    lot, clean = value
    return all([room in lot for room in clean])


def gone_on(reader, standing, letter):
    """As next_standing, of what is known to be a standing and a letter of the reader."""
    lot, clean = standing
    ways = [reader.way(number) for room in lot for number in reader.ways_by(room, letter)]
    new_lot = tuple(sorted({way[2] for way in ways}))
    new_clean = tuple(sorted({way[2] for way in ways if way[0] in clean and way[3] == 0}))
    if not new_clean:
        return (new_lot, new_lot), True
    return (new_lot, new_clean), False


def coming_standings(reader):
    """A dict: for each standing that comes the list, by letters, of the tuples of `gone_on`."""
    steps = {}
    waiting = [FIRST_STANDING]
    while waiting:
        standing = waiting.pop()
        if standing in steps:
            continue
        if len(steps) == MOST_STANDINGS:
            raise TooMany("standings", MOST_STANDINGS)
        steps[standing] = [gone_on(reader, standing, letter) for letter in range(reader.letters)]
        waiting.extend([to for to, _ in steps[standing]])
    return steps


def _gone_along(reader, standing, word):
    broken = 0
    for letter in word:
        standing, breaks = gone_on(reader, standing, letter)
        if breaks:
            broken += 1
    return standing, broken


def _are_rooms(reader, value):
    if not isinstance(value, tuple) or not value:
        return False
    return all([is_below(room, reader.rooms) for room in value]) and is_rising(value)
