"""Graphs: lists that tell for each node, a number, to which nodes steps lead from it."""


def turned_round(leads):
    """For each node the list of those from which steps lead to it."""
    back = [[] for _ in leads]
    for node, onward in enumerate(leads):
        for to in onward:
            back[to].append(node)
    return back


def fewest_steps(leads, starts):
    """For each node the fewest steps by which one comes to it from some start, None if by none."""
    fewest = [None] * len(leads)
    come = list(starts)
    many = 0
    while come:
        fresh = []
        for node in come:
            if fewest[node] is None:
                fewest[node] = many
                fresh.append(node)
        come = [to for node in fresh for to in leads[node]]
        many += 1
    return fewest


def fewest_between(leads, start, goal):
    """The list of the nodes from start on, ahead of the goal, on a way of the fewest steps, one at least."""
    source = {}
    come = [start]
    while goal not in source:
        fresh = []
        for node in come:
            for to in leads[node]:
                if to not in source:
                    source[to] = node
                    fresh.append(to)
        come = fresh
    way = [source[goal]]
    while way[-1] != start:
        way.append(source[way[-1]])
    return way[::-1]


def parts_of(leads):
    """For each node the number of its part: in one part are those that come to one another.

    No step leads to a part with a greater number.
    """
    parts = [None] * len(leads)
    many = 0
    # Who came to an end last, going back, is in a part that leads to no further one.
    for start in _ended(turned_round(leads))[::-1]:
        if parts[start] is not None:
            continue
        waiting = [start]
        while waiting:
            node = waiting.pop()
            if parts[node] is None:
                parts[node] = many
                waiting.extend(leads[node])
        many += 1
    return parts


def on_rings(leads):
    """For each node whether steps lead from it to itself again."""
    parts = parts_of(leads)
    return [any([parts[to] == parts[node] for to in onward]) for node, onward in enumerate(leads)]


def most_worth(steps):
    """For each node how much steps one behind another from it are worth at most, None if they have no most.

    Steps are told for each node by a list of tuples (to, worth), a worth of 0 or more.
    """
    parts = parts_of([[to for to, _ in onward] for onward in steps])
    most = [0] * len(steps)
    for part, node in sorted([(own, node) for node, own in enumerate(parts)]):
        for to, worth in steps[node]:
            if parts[to] == part and worth > 0:
                return None
            # A part to which steps lead from this one has a lesser number, so its most is known.
            most[part] = max(most[part], most[parts[to]] + worth)
    return [most[part] for part in parts]


def least_pairs(steps):
    """For each node the pair (how many steps of a first kind come from it at most, how many of a second kind at most).

    The first ones may have others between them; the second ones come one right behind another, between nodes with the
    same first number. Steps are told for each node by a list of tuples (to, first, second): 1 if of this kind, or 0.
    """
    ones = most_worth([[(to, one) for to, one, _ in onward] for onward in steps])
    twos = most_worth([[(to, 1) for to, _, two in onward if two == 1 and ones[to] == ones[node]]
                       for node, onward in enumerate(steps)])
    return [(many, twos[node]) for node, many in enumerate(ones)]


def numbered(first, steps_of):
    """The tuple of the list of the nodes that come, the first one ahead, and of the list of the steps from each.

    steps_of tells of a node the list of its steps, tuples that begin with the node to which one leads; in what is told
    they begin with this node's number.
    """
    nodes = [first]
    numbers = {first: 0}
    steps = []
    while len(steps) < len(nodes):
        onward = steps_of(nodes[len(steps)])
        told = []
        for to, *rest in onward:
            if to not in numbers:
                numbers[to] = len(nodes)
                nodes.append(to)
            told.append((numbers[to], *rest))
        steps.append(told)
    return nodes, steps


def _ended(leads):
    """All nodes, as they come to an end: each behind all that were new when it went on to them."""
    ended = []
    seen = [False] * len(leads)
    for start in range(len(leads)):
        if seen[start]:
            continue
        seen[start] = True
        trail = [(start, 0)]
        while trail:
            node, at = trail.pop()
            if at == len(leads[node]):
                ended.append(node)
                continue
            trail.append((node, at + 1))
            to = leads[node][at]
            if not seen[to]:
                seen[to] = True
                trail.append((to, 0))
    return ended
