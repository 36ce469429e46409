"""The same things told another way, as plainly as the words of the document go, to compare with."""

from tests.tools import letters_of


def plain_count(value, below):
    return type(value) is int and 0 <= value < below


def ways_from(reader, room, letter):
    return [way for way in reader.ways() if way[:2] == (room, letter)]


def is_told_run(reader, value):
    """Whether the value is a told run of the reader, along whatever row."""
    if type(value) is not tuple or len(value) != 2 or not all(type(part) in (list, tuple) for part in value):
        return False
    head, loop = list(value[0]), list(value[1])
    if len(head) > 520 or not 1 <= len(loop) <= 480:
        return False
    if not all(plain_count(number, reader.many) for number in head + loop):
        return False
    gone = [reader.ways()[number] for number in head + loop]
    if gone[0][0] != 0 or gone[-1][2] != gone[len(head)][0]:
        return False
    return all(one[2] == two[0] for one, two in zip(gone, gone[1:]))


def is_run_along(reader, row, value):
    """Whether the value is a told run of the reader along the row."""
    if not is_told_run(reader, value):
        return False
    head, loop = list(value[0]), list(value[1])
    if len(head) not in range(len(row[0]), 600, len(row[1])) or len(loop) not in range(len(row[1]), 600, len(row[1])):
        return False
    letters = letters_of(row, len(head) + len(loop))
    return [reader.ways()[number][1] for number in head + loop] == letters


def behind(reader, rooms, word, clean=False):
    """The set of the rooms to which ways lead from some of the rooms by the word, by clean ways alone if told so."""
    rooms = set(rooms)
    for letter in word:
        rooms = {way[2] for room in rooms for way in ways_from(reader, room, letter) if not (clean and way[3])}
    return rooms


def is_let(reader, row):
    """Whether some run that goes cleanly from some beginning of a round on never ends."""
    begin, again = row
    come = behind(reader, {0}, begin)
    for _ in range(reader.rooms):
        come |= behind(reader, come, again)
    for _ in range(reader.rooms + 1):
        come = behind(reader, come, again, clean=True)
    # Who has gone so many clean rounds has been in one room twice where they begin.
    return bool(come)


def leads(reader, row, spot):
    """The list of the tuples (way, spot) of the ways that lead from the spot."""
    position, room = spot
    letters = list(row[0]) + list(row[1])
    next_one = position + 1 if position + 1 < len(letters) else len(row[0])
    return [(way, (next_one, way[2])) for way in ways_from(reader, room, letters[position])]


def coming_spots(reader, row):
    come = [(0, 0)]
    for spot in come:
        for _, to in leads(reader, row, spot):
            if to not in come:
                come.append(to)
    return sorted(come)


def least_heights(reader, row):
    """The least heights: they grow from nought until nothing is left to do; None if they grow for ever."""
    come = coming_spots(reader, row)
    onward = {spot: [to for way, to in leads(reader, row, spot) if not way[3]] for spot in come}
    numbers = dict.fromkeys(come, 0)
    for _ in range(len(come) + 1):
        grown = {spot: max([numbers[to] + 1 for to in onward[spot]], default=0) for spot in come}
        if grown == numbers:
            return [(*spot, numbers[spot]) for spot in come]
        numbers = grown
    return None


def are_heights(reader, row, value):
    """Whether the value is heights for the row."""
    if type(value) not in (list, tuple):
        return False
    for item in value:
        if type(item) is not tuple or len(item) != 3:
            return False
        if not (plain_count(item[0], len(row[0]) + len(row[1])) and plain_count(item[1], reader.rooms)
                and plain_count(item[2], 10 ** 7)):
            return False
    numbers = {item[:2]: item[2] for item in value}
    if list(value) != sorted(value) or len(numbers) != len(value) or (0, 0) not in numbers:
        return False
    for spot, number in numbers.items():
        for way, to in leads(reader, row, spot):
            if to not in numbers or (not way[3] and not numbers[to] < number):
                return False
    return True


def going_on(reader, standing, letter):
    """The standing to which this one goes on, and whether it breaks."""
    lot, clean = standing
    new_lot = tuple(sorted(behind(reader, lot, [letter])))
    new_clean = tuple(sorted(behind(reader, clean, [letter], clean=True)))
    return ((new_lot, new_clean), False) if new_clean else ((new_lot, new_lot), True)


def is_standing(reader, value):
    if type(value) is not tuple or len(value) != 2:
        return False
    for part in value:
        if type(part) is not tuple or not part or not all(plain_count(room, reader.rooms) for room in part):
            return False
        if list(part) != sorted(set(part)):
            return False
    return set(value[1]) <= set(value[0])


def coming_standings(reader):
    come = [((0,), (0,))]
    known = set(come)
    for standing in come:
        for letter in range(reader.letters):
            to, _ = going_on(reader, standing, letter)
            if to not in known:
                known.add(to)
                come.append(to)
    return sorted(come)


FIRST = ((0,), (0,))


def node_steps(reader, other, node):
    """The steps from a node: tuples (letter, node, whether it is clean, whether it breaks)."""
    room, standing = node
    steps = []
    for letter in range(reader.letters):
        behind_it, breaks = going_on(other, standing, letter)
        steps += [(letter, (way[2], behind_it), way[3] == 0, breaks) for way in ways_from(reader, room, letter)]
    return steps


def coming_nodes(reader, other):
    """A dict: for each node that comes its steps."""
    come = {(0, FIRST): None}
    waiting = [(0, FIRST)]
    for node in waiting:
        come[node] = node_steps(reader, other, node)
        for _, to, _, _ in come[node]:
            if to not in come:
                come[to] = None
                waiting.append(to)
    return come


def least_numbers(steps, most):
    """For each node the most worth of a row of steps; they grow from nought; None if some grows above the most.

    The steps are told for each node by a list of tuples (node, worth).
    """
    numbers = dict.fromkeys(steps, 0)
    changed = True
    while changed:
        changed = False
        for node, onward in steps.items():
            number = max([numbers[to] + worth for to, worth in onward], default=0)
            if number > numbers[node]:
                numbers[node] = number
                changed = True
            if number > most:
                return None
    return numbers


def within_paper(reader, other):
    steps = {node: [(to, int(breaks)) for _, to, clean, breaks in onward if clean]
             for node, onward in coming_nodes(reader, other).items()}
    numbers = least_numbers(steps, len(steps))
    return None if numbers is None else sorted(numbers.items())


def is_node(reader, other, value):
    """Whether the value is a tuple of a room of the reader and a standing of the other one."""
    return type(value) is tuple and len(value) == 2 and plain_count(value[0], reader.rooms) \
        and is_standing(other, value[1])


def is_within_paper(reader, other, value):
    if type(value) not in (list, tuple):
        return False
    for item in value:
        if type(item) is not tuple or len(item) != 2 or not is_node(reader, other, item[0]):
            return False
        if not plain_count(item[1], 10 ** 40):
            return False
    numbers = dict(value)
    if list(value) != sorted(numbers.items()) or (0, FIRST) not in numbers:
        return False
    for node, number in numbers.items():
        for _, to, clean, breaks in node_steps(reader, other, node):
            if to not in numbers or clean and numbers[to] > number - int(breaks):
                return False
    return True


def parts(reader, other, row):
    return is_let(reader, row) and not is_let(other, row)


def fewest(steps, start):
    """For each node to which steps lead from the start the fewest of them; steps are told by a dict of lists."""
    many = {start: 0}
    waiting = [start]
    for node in waiting:
        for to in steps[node]:
            if to not in many:
                many[to] = many[node] + 1
                waiting.append(to)
    return many


def is_short(steps, first, most=40):
    """Whether at most so many steps lead to a node, and a ring of at most so many with a marked step goes through it.

    The steps are told for each node by a list of tuples (node, kind): 0 for any, 1 for a marked, 2 for a barred one.
    """
    far = fewest({node: [to for to, _ in onward] for node, onward in steps.items()}, first)
    twofold = {(node, seen): [(to, max(seen, kind)) for to, kind in onward if kind < 2]
               for node, onward in steps.items() for seen in (0, 1)}
    return any(many <= most and fewest(twofold, (node, 0)).get((node, 1), most + 1) <= most
               for node, many in far.items())


def is_soon_parted(reader, other):
    """Whether a row of few letters comes of a ring of clean steps with a break."""
    steps = {node: [(to, int(breaks) if clean else 2) for _, to, clean, breaks in onward]
             for node, onward in coming_nodes(reader, other).items()}
    return is_short(steps, (0, FIRST))
