"""Runs of a reader along a row, told as tuples (head, loop) of numbers of ways [2a]."""

from tworivals.basics import is_below, is_list, is_pair
from tworivals.checks import check_row, check_word
from tworivals.errors import InvalidRun
from tworivals.leads import clean_numbers, clean_round, coming_leads, ways_to
from tworivals.readers import check_reader

MOST_HEAD = 520
MOST_LOOP = 480


def is_run(reader, row, value):
    """Whether the value is a told run of the reader along the row."""
    check_reader(reader)
    check_row(reader.letters, row)
    if not is_told_run(reader, value):
        return False
    begin, again = row
    head, loop = value
    longer = len(head) - len(begin)
    if longer < 0 or longer % len(again) > 0 or len(loop) % len(again) > 0:
        return False
    taken = [reader.way(number)[1] for number in (*head, *loop)]
    rounds = (longer + len(loop)) // len(again)
    return taken == list(begin + again * rounds)


def slips_of(reader, run):
    """The tuple of how many slips the head of the run has, and how many its loop has."""
    check_reader(reader)
    if not is_told_run(reader, run):
        raise InvalidRun(run)
    head, loop = run
    return _slips_in(reader, head), _slips_in(reader, loop)


def lets_by(reader, row):
    """Whether the row is let by."""
    check_reader(reader)
    check_row(reader.letters, row)
    leads = coming_leads(reader, row)
    return len(clean_numbers(leads)) < len(leads)


def clean_run(reader, row):
    """A told run along the row whose loop is clean, None if there is none."""
    check_reader(reader)
    check_row(reader.letters, row)
    leads = coming_leads(reader, row)
    trail = clean_round(leads)
    if trail is None:
        return None
    # The loop has whole rounds of again, so it has to begin where these do.
    at = [position for (position, _), _ in trail].index(len(row[0]))
    loop = [way for _, way in trail[at:] + trail[:at]]
    return ways_to(leads, trail[at][0]), loop


def rooms_behind(reader, word):
    """The rising list of the rooms behind the word."""
    check_reader(reader)
    check_word(reader.letters, word)
    rooms = [0]
    for letter in word:
        numbers = [number for room in rooms for number in reader.ways_by(room, letter)]
        rooms = sorted({reader.way(number)[2] for number in numbers})
    return rooms


def is_told_run(reader, value):
    """Whether the value is a told run of the reader, along whatever row."""
    if not is_pair(value) or not is_list(value[0]) or not is_list(value[1]):
        return False
    head, loop = value
    if len(head) > MOST_HEAD or not 1 <= len(loop) <= MOST_LOOP:
        return False
    if not all([is_below(number, reader.many) for number in (*head, *loop)]):
        return False
    home = _led(reader, 0, head)
    return home is not None and _led(reader, home, loop) == home


def _led(reader, room, numbers):
    """To which room the ways lead from the room one behind another, None if they don't go on so."""
    for number in numbers:
        start, _, to, _ = reader.way(number)
        if start != room:
            return None
        room = to
    return room


def _slips_in(reader, numbers):
    return sum([reader.way(number)[3] for number in numbers])
