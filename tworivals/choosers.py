"""Choosers that keep one of finitely many memories in mind, told by tables [5b]."""

from tworivals.basics import is_below, is_list, is_pair
from tworivals.breaks import break_table, standings
from tworivals.checks import check_row, is_row_of
from tworivals.errors import InvalidTable, TooMany
from tworivals.plays import chooser_paper
from tworivals.readers import check_reader
from tworivals.runs import MOST_HEAD, MOST_LOOP, lets_by
from tworivals.trails import BARRED, MARKED, PLAIN, most_marked, row_round

MOST_MEMORIES = 60


def is_table(reader, value):
    """Whether the value is a table for the reader."""
    check_reader(reader)
    if not is_list(value) or not 1 <= len(value) <= MOST_MEMORIES:
        return False
    return all([_is_memory(reader, len(value), rooms) for rooms in value])


def run_by(reader, table, row):
    """The table's run along the row, told with a head as short as can be."""
    check_reader(reader)
    check_table(reader, table)
    check_row(reader.letters, row)
    head, loop = _run(reader, table, row)
    if len(head) > MOST_HEAD:
        raise TooMany("head", MOST_HEAD)
    if len(loop) > MOST_LOOP:
        raise TooMany("loop", MOST_LOOP)
    return head, loop


def keeps(reader, table, row):
    """Whether the table's run along the row slips finitely often."""
    check_reader(reader)
    check_table(reader, table)
    check_row(reader.letters, row)
    _, loop = _run(reader, table, row)
    return all([reader.way(number)[3] == 0 for number in loop])


def is_chooser(reader, value):
    """Whether the value is a table whose chooser is right."""
    check_reader(reader)
    return is_table(reader, value) and most_marked(_leads(reader, value)) is not None


def chooser_of(reader):
    """A table whose chooser is right, None if the reader has no chooser."""
    check_reader(reader)
    paper = chooser_paper(reader)
    if paper is None:
        return None
    memories = standings(reader)
    if len(memories) > MOST_MEMORIES:
        raise TooMany("memories", MOST_MEMORIES)
    onward = break_table(reader)
    ways = {position: chosen for position, chosen, _ in paper}
    table = []
    for memory, standing in enumerate(memories):
        rooms = []
        for room in range(reader.rooms):
            chosen = ways[(room, standing)] if (room, standing) in ways else _first_ways(reader, room)
            rooms.append([(way, onward[memory][letter][0]) for letter, way in enumerate(chosen)])
        table.append(rooms)
    return table


def wrong_row(reader, table):
    """A wrong row, None if the table's chooser is right."""
    check_reader(reader)
    check_table(reader, table)
    leads = _leads(reader, table)
    if most_marked(leads) is not None:
        return None
    return row_round(leads)


def is_wrong_row(reader, table, value):
    """Whether the value is a wrong row for the table."""
    check_reader(reader)
    check_table(reader, table)
    return is_row_of(reader.letters, value) and lets_by(reader, value) and not keeps(reader, table, value)


def check_table(reader, table):
    """Only a table for the reader passes."""
    if not is_table(reader, table):
        raise InvalidTable(table)


def _is_memory(reader, memories, value):
    """Whether the value is what a table of so many memories tells of one."""
    if not is_list(value) or len(value) != reader.rooms:
        return False
    return all([_is_room(reader, memories, room, letters) for room, letters in enumerate(value)])


def _is_room(reader, memories, room, value):
    if not is_list(value) or len(value) != reader.letters:
        return False
    for letter, item in enumerate(value):
        if not is_pair(item) or not is_below(item[0], reader.many) or not is_below(item[1], memories):
            return False
        if reader.way(item[0])[:2] != (room, letter):
            return False
    return True


def _run(reader, table, row):
    """The table's run along the row, a tuple (head, loop) of whatever lengths."""
    begin, again = row
    ways, pair = _gone(reader, table, (0, 0), begin)
    came = {}
    while pair not in came:
        came[pair] = len(ways)
        more, pair = _gone(reader, table, pair, again)
        ways.extend(more)
    return ways[:came[pair]], ways[came[pair]:]


def _gone(reader, table, pair, word):
    """The tuple of the list of ways that are taken by the word, and of the memory and the room behind it."""
    memory, room = pair
    ways = []
    for letter in word:
        way, memory = table[memory][room][letter]
        ways.append(way)
        room = reader.way(way)[2]
    return ways, (memory, room)


def _leads(reader, table):
    """The steps of the places that come, as trails take them: breaks are barred, slips are marked."""
    onward = break_table(reader)
    # The first standing is the first one of all that come, as they are sorted.
    places = [(0, 0, 0)]
    numbers = {(0, 0, 0): 0}
    leads = []
    while len(leads) < len(places):
        memory, room, standing = places[len(leads)]
        steps = []
        for letter, (way, following) in enumerate(table[memory][room]):
            behind, breaks = onward[standing][letter]
            _, _, to, slip = reader.way(way)
            place = (following, to, behind)
            if place not in numbers:
                numbers[place] = len(places)
                places.append(place)
            steps.append((letter, numbers[place], _kind(slip, breaks)))
        leads.append(steps)
    return leads


def _kind(slip, breaks):
    if breaks:
        return BARRED
    return MARKED if slip == 1 else PLAIN


def _first_ways(reader, room):
    return [reader.ways_by(room, letter)[0] for letter in range(reader.letters)]
