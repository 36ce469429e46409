"""Whether the rows of one reader are among those of another one, with papers, and rows that part them [3b]."""

from tworivals.basics import are_told, is_count, is_pair
from tworivals.breaks import coming_standings, gone_on
from tworivals.checks import is_row_of
from tworivals.errors import UnlikeLetters
from tworivals.positions import FIRST_POSITION, is_position
from tworivals.readers import check_reader, ways_from
from tworivals.runs import lets_by
from tworivals.trails import BARRED, MARKED, PLAIN, most_marked, row_round


def is_within(reader, other):
    """Whether each row that the reader lets by is let by by the other one."""
    return within_paper(reader, other) is not None


def are_equal(reader, other):
    """Whether both let the same rows by."""
    there = is_within(reader, other)
    # Asked in any case: the reader's standings may be too many.
    back = is_within(other, reader)
    return there and back


def within_paper(reader, other):
    """The within paper of just the nodes that come with the least numbers, None if the reader isn't within."""
    check_both(reader, other)
    nodes, leads = _coming_nodes(reader, other)
    numbers = most_marked(leads)
    if numbers is None:
        return None
    return [(node, numbers[at]) for node, at in sorted([(node, at) for at, node in enumerate(nodes)])]


def is_within_paper(reader, other, value):
    """Whether the value is a within paper."""
    check_both(reader, other)
    if not are_told(value, lambda item: _is_numbered(reader, other, item)):
        return False
    numbers = {node: number for node, number in value}
    return FIRST_POSITION in numbers and all([_holds(reader, other, numbers, node) for node in numbers])


def parting_row(reader, other):
    """A row that parts the reader from the other one, None if it is within."""
    check_both(reader, other)
    _, leads = _coming_nodes(reader, other)
    if most_marked(leads) is not None:
        return None
    return row_round(leads)


def is_parting_row(reader, other, value):
    """Whether the value is a row that parts the reader from the other one."""
    check_both(reader, other)
    return is_row_of(reader.letters, value) and lets_by(reader, value) and not lets_by(other, value)


def check_both(reader, other):
    """Only two Readers with as many letters pass."""
    check_reader(reader)
    check_reader(other)
    if reader.letters != other.letters:
        raise UnlikeLetters()


def _coming_nodes(reader, other):
    """The tuple of the list of the nodes that come, the first one ahead, and of their steps, as trails take them."""
    onward = coming_standings(other)
    nodes = [FIRST_POSITION]
    numbers = {FIRST_POSITION: 0}
    leads = []
    while len(leads) < len(nodes):
        room, standing = nodes[len(leads)]
        steps = []
        for letter in range(reader.letters):
            behind, breaks = onward[standing][letter]
            for _, _, to, slip in ways_from(reader, room, letter):
                node = (to, behind)
                if node not in numbers:
                    numbers[node] = len(nodes)
                    nodes.append(node)
                steps.append((letter, numbers[node], _kind(slip, breaks)))
        leads.append(steps)
    return nodes, leads


def _kind(slip, breaks):
    if slip == 1:
        return BARRED
    return MARKED if breaks else PLAIN


def _is_numbered(reader, other, value):
    return is_pair(value) and is_position(reader.rooms, other, value[0]) and is_count(value[1])


def _holds(reader, other, numbers, node):
    """Whether the steps from the node lead to nodes with numbers that are as small as they have to be."""
    room, standing = node
    for letter in range(reader.letters):
        behind, breaks = gone_on(other, standing, letter)
        for _, _, to, slip in ways_from(reader, room, letter):
            most = numbers[node] - 1 if breaks else numbers[node]
            if (to, behind) not in numbers or (slip == 0 and numbers[(to, behind)] > most):
                return False
    return True
