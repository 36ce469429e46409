"""Letter plays, choosers, rivals and foes told another way, as plainly as the words of the document go."""

import itertools
import random

from tests import board_oracles, oracles
from tests.oracles import FIRST, going_on, is_node, plain_count, ways_from
from tests.tools import some_ways
from tworivals.boards import Board
from tworivals.readers import Reader


def small_readers(many, seed=1, sizes=((1, 2), (1, 3), (2, 2), (2, 3), (3, 2))):
    """So many readers of few rooms, the same each time; by some letters there are choices."""
    source = random.Random(seed)
    readers = []
    while len(readers) < many:
        letters, rooms = source.choice(sizes)
        readers.append(Reader(letters, rooms, some_ways(source, letters, rooms, source.randrange(1, 5))))
    return readers


# Readers without a chooser: what comes next must be guessed, or it must be chosen once for all, at once or some time.
GUESS = (2, 3, [(0, 0, 1, 0), (0, 0, 2, 0), (0, 1, 1, 0), (0, 1, 2, 0), (1, 0, 0, 0), (1, 1, 0, 1), (2, 0, 0, 1),
                (2, 1, 0, 0)])
ONCE = (2, 3, [(0, 0, 1, 0), (0, 0, 2, 0), (0, 1, 1, 0), (0, 1, 2, 0), (1, 0, 1, 0), (1, 1, 1, 1), (2, 0, 2, 1),
               (2, 1, 2, 0)])
PARTS = (2, 3, [(0, 0, 1, 1), (0, 0, 2, 1), (0, 1, 1, 1), (0, 1, 2, 1), (1, 0, 1, 0), (1, 1, 1, 1), (2, 0, 2, 1),
                (2, 1, 2, 0)])
# It wins against one rival, but has no chooser.
LONE = (2, 2, [(0, 0, 0, 1), (0, 0, 1, 0), (0, 1, 0, 0), (1, 0, 1, 0), (1, 1, 1, 1)])


def doubtful_readers(many, seed=1):
    """So many readers, the same each time, of which not few have no chooser: like the above, but for some ways."""
    source = random.Random(seed)
    readers = [Reader(*told) for told in (GUESS, ONCE, PARTS, LONE)]
    while len(readers) < many:
        letters, rooms, ways = source.choice([GUESS, ONCE, PARTS, LONE])
        if source.randrange(2):
            letters, ways = 3, ways + [(room, 2, source.randrange(rooms), source.randrange(2)) for room in range(rooms)]
        if source.randrange(2):
            rooms, ways = 4, ways + [(room, letter, source.randrange(4), source.randrange(2))
                                     for letter in range(letters) for room in range(rooms, 4)]
        ways = set(ways)
        for _ in range(source.randrange(4)):
            way = (source.randrange(rooms), source.randrange(letters), source.randrange(rooms), source.randrange(2))
            ways.add(way)
            more = [one for one in sorted(ways) if one[:2] == way[:2]]
            if len(more) > 1:
                ways.discard(source.choice(more))
        readers.append(Reader(letters, rooms, sorted(ways)))
    return readers


def letter_goals(reader, name):
    kind, room, standing, last = name
    if kind == "foe":
        return [("choice", room, standing, letter) for letter in range(reader.letters)]
    to, breaks = going_on(reader, standing, last)
    return [("foe", way[2], to, 2 if breaks else way[3]) for way in ways_from(reader, room, last)]


def grown_board(first, goals_of, owner_of, rank_of, most=600):
    """The board of the places that come, in their sequence, with their names; only the names where there are more."""
    names = [first]
    known = {first}
    for name in names:
        for goal in goals_of(name):
            if goal not in known:
                known.add(goal)
                names.append(goal)
    return told_board(names, goals_of, owner_of, rank_of) if len(names) <= most else (None, names)


def told_board(names, goals_of, owner_of, rank_of):
    numbers = {name: at for at, name in enumerate(names)}
    moves = [sorted({numbers[goal] for goal in goals_of(name)}) for name in names]
    return Board([owner_of(name) for name in names], [rank_of(name) for name in names], moves), names


def letter_board(reader):
    return grown_board(("foe", 0, FIRST, 0), lambda name: letter_goals(reader, name),
                       lambda name: int(name[0] == "foe"), lambda name: name[3] if name[0] == "foe" else 0)


def has_chooser(reader):
    board, _ = letter_board(reader)
    return board_oracles.winners_by_lifting(board)[0] == 0


def steps_of(reader, position, letter):
    """The tuples (way, position, whether it slips, whether it breaks) of the ways by the letter."""
    to, breaks = going_on(reader, position[1], letter)
    return [(reader.ways().index(way), (way[2], to), way[3] == 1, breaks)
            for way in ways_from(reader, position[0], letter)]


def is_list(value):
    return type(value) in (list, tuple)


def items_of(reader, value, size):
    """A dict of the rising items of a list by their positions, None if it isn't one of tuples of this size."""
    if not is_list(value):
        return None
    for item in value:
        if type(item) is not tuple or len(item) != size or not is_node(reader, reader, item[0]):
            return None
    positions = [item[0] for item in value]
    if positions != sorted(set(positions)) or (0, FIRST) not in positions:
        return None
    return {item[0]: item[1:] for item in value}


def is_chooser_paper(reader, value):
    items = items_of(reader, value, 3)
    if items is None:
        return False
    for position, (ways, number) in items.items():
        if not is_list(ways) or len(ways) != reader.letters or not plain_count(number, 10 ** 40):
            return False
    for position, (ways, number) in items.items():
        for letter, chosen in enumerate(ways):
            found = [step for step in steps_of(reader, position, letter) if step[0] == chosen]
            if not plain_count(chosen, reader.many) or not found:
                return False
            _, to, slips, breaks = found[0]
            if to not in items or not breaks and not (items[to][1] < number if slips else items[to][1] <= number):
                return False
    return True


def is_foe_paper(reader, value):
    items = items_of(reader, value, 3)
    if items is None:
        return False
    for letter, pair in items.values():
        if not plain_count(letter, reader.letters) or type(pair) is not tuple or len(pair) != 2:
            return False
        if not all(plain_count(part, 10 ** 40) for part in pair):
            return False
    for position, (letter, (a, b)) in items.items():
        for _, to, slips, breaks in steps_of(reader, position, letter):
            if to not in items:
                return False
            c, d = items[to][1]
            if breaks and not c < a or c > a or c == a and not slips and not d < b:
                return False
    return True


def is_foe(reader, value):
    items = items_of(reader, value, 2)
    if items is None or not all(plain_count(letter, reader.letters) for letter, in items.values()):
        return False
    steps = {position: steps_of(reader, position, letter) for position, (letter,) in items.items()}
    if any(to not in items for onward in steps.values() for _, to, _, _ in onward):
        return False
    everywhere = {position: [to for _, to, _, _ in onward] for position, onward in steps.items()}
    cleanly = {position: [to for _, to, slips, _ in onward if not slips] for position, onward in steps.items()}
    for position, onward in steps.items():
        for _, to, slips, breaks in onward:
            if breaks and position in oracles.fewest(everywhere, to):
                return False
            if not slips and position in oracles.fewest(cleanly, to):
                return False
    return True


def is_table(reader, value):
    if not is_list(value) or not 1 <= len(value) <= 60:
        return False
    for rooms in value:
        if not is_list(rooms) or len(rooms) != reader.rooms or not all(is_list(room) for room in rooms):
            return False
        for room, letters in enumerate(rooms):
            if len(letters) != reader.letters:
                return False
            for letter, item in enumerate(letters):
                if type(item) is not tuple or len(item) != 2 or not plain_count(item[0], reader.many):
                    return False
                if reader.ways()[item[0]][:2] != (room, letter) or not plain_count(item[1], len(value)):
                    return False
    return True


def some_table(source, reader, memories):
    return [[[(source.choice(reader.ways_by(room, letter)), source.randrange(memories))
              for letter in range(reader.letters)] for room in range(reader.rooms)] for _ in range(memories)]


def run_by(reader, table, row):
    """The table's run, way by way: the head ends with the first round whose memory and room come again."""
    begin, again = row
    memory, room, gone, rounds = 0, 0, [], []
    for letter in itertools.chain(begin, itertools.cycle(again)):
        if len(gone) >= len(begin) and (len(gone) - len(begin)) % len(again) == 0:
            if (memory, room) in rounds:
                break
            rounds.append((memory, room))
        way, memory = table[memory][room][letter]
        gone.append(way)
        room = reader.ways()[way][2]
    head = len(begin) + rounds.index((memory, room)) * len(again)
    return gone[:head], gone[head:]


def keeps(reader, table, row):
    return not any(reader.ways()[way][3] for way in run_by(reader, table, row)[1])


def table_steps(reader, table):
    """A dict: for each place that comes its steps, tuples (place, kind): 0 plain, 1 with a slip, 2 with a break."""
    come = {}
    waiting = [(0, 0, FIRST)]
    while waiting:
        memory, room, standing = waiting.pop()
        if (memory, room, standing) in come:
            continue
        steps = []
        for letter in range(reader.letters):
            way, behind = table[memory][room][letter]
            to, breaks = going_on(reader, standing, letter)
            steps.append(((behind, reader.ways()[way][2], to), 2 if breaks else reader.ways()[way][3]))
        come[(memory, room, standing)] = steps
        waiting += [to for to, _ in steps]
    return come


def is_right(reader, table):
    steps = table_steps(reader, table)
    inner = {place: [to for to, kind in onward if kind < 2] for place, onward in steps.items()}
    return not any(kind == 1 and place in oracles.fewest(inner, to)
                   for place, onward in steps.items() for to, kind in onward)


def is_soon_wrong(reader, table):
    return oracles.is_short(table_steps(reader, table), (0, 0, FIRST))


def turn(reader, state, way, ways):
    """The state behind a turn, and its rank, with the ways themselves."""
    flag = state[2]
    whole = False
    while ways[flag][3] == 1:
        flag += 1
        if flag == len(ways):
            whole, flag = True, 0
            break
    return (way[2], tuple(one[2] for one in ways), flag), 2 if whole else way[3]


def rival_goals(reader, name):
    if name[0] == "foe":
        return [("first", name[1], letter) for letter in range(reader.letters)]
    if name[0] == "first":
        _, (room, rooms, flag), letter = name
        return [("rivals", (way[2], rooms, flag), way[3], letter) for way in ways_from(reader, room, letter)]
    _, (room, rooms, flag), slip, letter = name
    goals = []
    for ways in itertools.product(*[ways_from(reader, one, letter) for one in rooms]):
        state, rank = turn(reader, (None, rooms, flag), (None, letter, room, slip), ways)
        goals.append(("foe", state, rank))
    return goals


def rival_board(reader, many):
    rules = (lambda name: rival_goals(reader, name), lambda name: int(name[0] != "first"),
             lambda name: name[2] if name[0] == "foe" else 0)
    board, names = grown_board(("foe", (0, (0,) * many, 0), 0), *rules)
    return (None, names) if board is None else told_board(sorted(names), *rules)


def spoilt(reader, foe, table):
    """The spoilt run."""
    letters = dict(foe)
    position, memory, gone, come = (0, FIRST), 0, [], []
    while (position, memory) not in come:
        come.append((position, memory))
        letter = letters[position]
        way, memory = table[memory][position[0]][letter]
        gone.append(way)
        position = (reader.ways()[way][2], going_on(reader, position[1], letter)[0])
    first = come.index((position, memory))
    return gone[:first], gone[first:]
