"""Rows of letters that lead to a ring, and then go round it: how readers and choosers are told apart [3b5], [5b5].

Leads are told for each node, a number, by a list of tuples (letter, to, kind). A row may go by all steps ahead of its
ring; round it by no barred step, and at least by one that is marked. It begins at node 0.
"""

from tworivals.checks import LONGEST
from tworivals.errors import TooMany
from tworivals.graphs import fewest_steps, most_worth, parts_of, turned_round

PLAIN = 0
MARKED = 1
BARRED = 2


def most_marked(leads):
    """For each node the most marked steps on a row of steps from it that aren't barred, None if there is a ring."""
    return most_worth([[(to, kind) for _, to, kind in onward if kind != BARRED] for onward in leads])


def row_round(leads):
    """A row that leads to a ring with a marked step and then goes round it; leads have such a ring."""
    inner = _inner_leads(leads)
    come = fewest_steps([[to for _, to, _ in onward] for onward in leads], [0])
    least = _least_rounds(inner)
    twofold = _twofold(inner)
    for many, node in sorted([(many, node) for node, many in enumerate(come) if many is not None]):
        if many > LONGEST or least[node] is None or least[node] > LONGEST:
            continue
        again = _fewest_letters(twofold, 2 * node, 2 * node + 1)
        if again is not None:
            begin = _fewest_letters([[(letter, to) for letter, to, _ in onward] for onward in leads], 0, node)
            return begin, again
    raise TooMany("letters", LONGEST)


def _inner_leads(leads):
    """Of the leads those that lie on rings without barred steps."""
    parts = parts_of([[to for _, to, kind in onward if kind != BARRED] for onward in leads])
    return [[step for step in onward if step[2] != BARRED and parts[step[1]] == parts[node]]
            for node, onward in enumerate(leads)]


def _least_rounds(inner):
    """For each node a number that no ring with a marked step through it is shorter than, None if there is none."""
    plain = [[to for _, to, _ in onward] for onward in inner]
    marked = [(node, to) for node, onward in enumerate(inner) for _, to, kind in onward if kind == MARKED]
    ahead = fewest_steps(turned_round(plain), [node for node, _ in marked])
    behind = fewest_steps(plain, [to for _, to in marked])
    return [None if steps is None else steps + 1 + behind[node] for node, steps in enumerate(ahead)]


def _twofold(inner):
    """The leads of twice as many nodes: 2 n is the node n ahead of marked steps, 2 n + 1 the same behind one."""
    found = []
    for onward in inner:
        found.append([(letter, 2 * to + kind) for letter, to, kind in onward])
        found.append([(letter, 2 * to + 1) for letter, to, _ in onward])
    return found


def _fewest_letters(steps, start, goal):
    """The tuple of the letters of the fewest steps from start to goal, None if these are too many."""
    came = {start: None}
    come = [start]
    for _ in range(LONGEST):
        if goal in came:
            break
        fresh = []
        for node in come:
            for letter, to in steps[node]:
                if to not in came:
                    came[to] = (node, letter)
                    fresh.append(to)
        come = fresh
    if goal not in came:
        return None
    letters = []
    node = goal
    while came[node] is not None:
        node, letter = came[node]
        letters.append(letter)
    return tuple(letters[::-1])
