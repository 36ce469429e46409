"""The coming spots of a row, the ways that lead from each to others, and clean rings of them [2b]."""

FIRST_SPOT = (0, 0)


def coming_leads(reader, row):
    """A dict: for each coming spot the list of the tuples (way, slip, spot to which it leads)."""
    leads = {}
    waiting = [FIRST_SPOT]
    while waiting:
        spot = waiting.pop()
        if spot not in leads:
            leads[spot] = leads_from(reader, row, spot)
            waiting.extend([to for _, _, to in leads[spot]])
    return leads


def leads_from(reader, row, spot):
    """The list of the tuples (way, slip, spot to which it leads) of the ways that lead from the spot."""
    position, room = spot
    letters = row[0] + row[1]
    behind = position + 1 if position + 1 < len(letters) else len(row[0])
    found = []
    for number in reader.ways_by(room, letters[position]):
        way = reader.way(number)
        found.append((number, way[3], (behind, way[2])))
    return found


def clean_numbers(leads):
    """A dict: for each spot from which clean ways don't go on for ever how many can be gone one behind another."""
    waits = {spot: len(_clean_spots(leads, spot)) for spot in leads}
    sources = _clean_sources(leads)
    ready = [spot for spot in leads if waits[spot] == 0]
    numbers = {}
    while ready:
        spot = ready.pop()
        numbers[spot] = max([numbers[to] + 1 for to in _clean_spots(leads, spot)], default=0)
        for source in sources[spot]:
            waits[source] -= 1
            if waits[source] == 0:
                ready.append(source)
    return numbers


def clean_round(leads):
    """A ring of unlike spots, a list of tuples (spot, clean way to the next one), None if there is none."""
    numbers = clean_numbers(leads)
    lasting = [spot for spot in leads if spot not in numbers]
    if not lasting:
        return None
    spot = lasting[0]
    trail = []
    places = {}
    while spot not in places:
        places[spot] = len(trail)
        # Where clean ways go on for ever, some clean way leads to where they do so again.
        way, to = [(way, to) for way, slip, to in leads[spot] if slip == 0 and to not in numbers][0]
        trail.append((spot, way))
        spot = to
    return trail[places[spot]:]


def ways_to(leads, goal):
    """The list of the ways of the fewest steps from the first spot to the goal, a coming one."""
    came = {FIRST_SPOT: None}
    waiting = [FIRST_SPOT]
    at = 0
    while goal not in came:
        spot = waiting[at]
        at += 1
        for way, _, to in leads[spot]:
            if to not in came:
                came[to] = (spot, way)
                waiting.append(to)
    ways = []
    spot = goal
    while came[spot] is not None:
        spot, way = came[spot]
        ways.append(way)
    return ways[::-1]


def _clean_spots(leads, spot):
    return [to for _, slip, to in leads[spot] if slip == 0]


def _clean_sources(leads):
    sources = {spot: [] for spot in leads}
    for spot in leads:
        for to in _clean_spots(leads, spot):
            sources[to].append(spot)
    return sources
