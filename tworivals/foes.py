"""Foes, who make of each chooser's choices a row that beats it [6b]."""

from tworivals.basics import are_told, is_below, is_pair
from tworivals.checks import check_row
from tworivals.choosers import check_table, keeps
from tworivals.errors import InvalidFoe
from tworivals.graphs import most_worth
from tworivals.plays import foe_paper
from tworivals.positions import FIRST_POSITION, is_position, steps_by
from tworivals.readers import check_reader
from tworivals.rows import normal_of, short_enough
from tworivals.runs import lets_by


def foe_of(reader):
    """A foe, None if the reader has a chooser."""
    check_reader(reader)
    paper = foe_paper(reader)
    if paper is None:
        return None
    return [(position, letter) for position, letter, _ in paper]


def is_foe(reader, value):
    """Whether the value is a foe of the reader."""
    check_reader(reader)
    if not are_told(value, lambda item: _is_named(reader, item)):
        return False
    numbers = {item[0]: at for at, item in enumerate(value)}
    steps = [steps_by(reader, position, letter) for position, letter in value]
    if FIRST_POSITION not in numbers or not all([to in numbers for onward in steps for _, to, _, _ in onward]):
        return False
    breaking = [[(numbers[to], 1 if breaks else 0) for _, to, _, breaks in onward] for onward in steps]
    clean = [[(numbers[to], 1) for _, to, slip, _ in onward if slip == 0] for onward in steps]
    return most_worth(breaking) is not None and most_worth(clean) is not None


def spoilt_run(reader, foe, table):
    """The spoilt run, a tuple of two lists of numbers of ways."""
    check_reader(reader)
    check_foe(reader, foe)
    check_table(reader, table)
    letters = {position: letter for position, letter in foe}
    position, memory = FIRST_POSITION, 0
    ways = []
    came = {}
    while (position, memory) not in came:
        came[(position, memory)] = len(ways)
        letter = letters[position]
        chosen, memory = table[memory][position[0]][letter]
        ways.append(chosen)
        position = [to for way, to, _, _ in steps_by(reader, position, letter) if way == chosen][0]
    begin = came[(position, memory)]
    return ways[:begin], ways[begin:]


def spoilt_row(reader, foe, table):
    """The spoilt row: the normal one of the letters of the spoilt run."""
    head, loop = spoilt_run(reader, foe, table)
    begin = tuple([reader.way(number)[1] for number in head])
    again = tuple([reader.way(number)[1] for number in loop])
    return short_enough(normal_of((begin, again)))


def beats(reader, row, table):
    """Whether the row beats the table's chooser."""
    check_reader(reader)
    check_row(reader.letters, row)
    check_table(reader, table)
    return lets_by(reader, row) and not keeps(reader, table, row)


def check_foe(reader, foe):
    """Only a foe of the reader passes."""
    if not is_foe(reader, foe):
        raise InvalidFoe(foe)


def _is_named(reader, value):
    if not is_pair(value) or not is_position(reader.rooms, reader, value[0]):
        return False
    return is_below(value[1], reader.letters)
