"""Step plays: the foe takes ways of one reader, hand 0 follows by ways of another one; papers of both [8a]."""

from tworivals.basics import are_told, is_below, is_count, is_list, is_pair
from tworivals.boards import Board
from tworivals.errors import InvalidPaper, InvalidRun
from tworivals.graphs import least_pairs, most_worth, numbered
from tworivals.named import named_places, position_named, winning_moves
from tworivals.pulls import ground_of
from tworivals.runs import is_told_run
from tworivals.within import check_both

FIRST_STAND = (0, 0)


def follows(reader, other):
    """Whether the other one follows the reader."""
    return _winning_moves(reader, other, 0) is not None


def following_paper(reader, other):
    """A following paper, None if the other one doesn't follow the reader."""
    told = _winning_moves(reader, other, 0)
    if told is None:
        return None
    _, goals = told

    def answers_of(stand):
        room, far = stand
        return [(way, _answer_to(reader, other, way, far, goals[("answer", way, far)]))
                for way in _all_ways(reader, room)]

    stands, steps = numbered(FIRST_STAND, lambda stand: _answered(reader, other, answers_of(stand)))
    numbers = most_worth([[(to, fails) for to, slip, fails in onward if slip == 0] for onward in steps])
    return sorted([(stand, answers_of(stand), numbers[at]) for at, stand in enumerate(stands)])


def leaving_paper(reader, other):
    """A leaving paper, None if the other one follows the reader."""
    told = _winning_moves(reader, other, 1)
    if told is None:
        return None
    goals, _ = told
    ways = {stand: goal[1] for stand, goal in goals.items()}
    stands, steps = numbered(FIRST_STAND, lambda stand: _left(reader, other, stand[1], ways[stand]))
    pairs = least_pairs([[(to, slip, 1 - fails) for to, slip, fails in onward] for onward in steps])
    return sorted([(stand, ways[stand], pairs[at]) for at, stand in enumerate(stands)])


def is_following_paper(reader, other, value):
    """Whether the value is a following paper."""
    check_both(reader, other)
    if not are_told(value, lambda item: _is_answered(reader, other, item)):
        return False
    numbers = {stand: number for stand, _, number in value}
    if FIRST_STAND not in numbers:
        return False
    for stand, answers, number in value:
        for to, slip, fails in _answered(reader, other, answers):
            if to not in numbers or (slip == 0 and numbers[to] > number - fails):
                return False
    return True


def is_leaving_paper(reader, other, value):
    """Whether the value is a leaving paper."""
    check_both(reader, other)
    if not are_told(value, lambda item: _is_left(reader, other, item)):
        return False
    pairs = {stand: pair for stand, _, pair in value}
    if FIRST_STAND not in pairs:
        return False
    for stand, way, pair in value:
        for to, slip, fails in _left(reader, other, stand[1], way):
            if to not in pairs or not _falls(pair, pairs[to], slip, fails):
                return False
    return True


def followed_run(reader, other, paper, run):
    """The run of the other one by which it follows the reader's run as the paper tells."""
    check_both(reader, other)
    if not is_following_paper(reader, other, paper):
        raise InvalidPaper(paper)
    if not is_told_run(reader, run):
        raise InvalidRun(run)
    answers = {stand: {way: answer for way, answer in told} for stand, told, _ in paper}
    head, loop = run
    ways, far = _followed(reader, other, answers, head, 0)
    came = {}
    while far not in came:
        came[far] = len(ways)
        more, far = _followed(reader, other, answers, loop, far)
        ways.extend(more)
    return ways[:came[far]], ways[came[far]:]


def _winning_moves(reader, other, hand):
    """The hand's winning moves at positions (room, far) and elsewhere, None if it doesn't win the step play."""
    check_both(reader, other)
    names, moves = named_places(("foe", *FIRST_STAND, 0), lambda name: _goals(reader, other, name))
    owners = [1 if name[0] == "foe" else 0 for name in names]
    board = Board(owners, [name[3] if name[0] == "foe" else 0 for name in names], moves)
    return winning_moves(ground_of(board), names, position_named, hand)


def _goals(reader, other, name):
    """The names of the places to which one goes from the place of this name."""
    if name[0] == "foe":
        return [("answer", way, name[2]) for way in _all_ways(reader, name[1])]
    return [_place_behind(step) for step in _left(reader, other, name[2], name[1])]


def _place_behind(step):
    """The name of the foe's place to which a step leads."""
    (room, far), slip, fails = step
    return "foe", room, far, 2 if slip == 1 else fails


def _all_ways(reader, room):
    """The rising list of the numbers of all ways from the room."""
    return [number for letter in range(reader.letters) for number in reader.ways_by(room, letter)]


def _step(reader, other, way, answer):
    """The tuple of where the way and its answer lead, of whether the way slips, and of whether the answer does."""
    _, _, to, slip = reader.way(way)
    _, _, behind, fails = other.way(answer)
    return (to, behind), slip, fails


def _left(reader, other, far, way):
    """The steps by the way of the reader, with all answers of the other one from the room far."""
    return [_step(reader, other, way, answer) for answer in other.ways_by(far, reader.way(way)[1])]


def _answered(reader, other, answers):
    """The steps by the ways of the reader with these answers."""
    return [_step(reader, other, way, answer) for way, answer in answers]


def _answer_to(reader, other, way, far, goal):
    """The number of a way by which the way is answered so that one comes to the place of the name goal."""
    answers = other.ways_by(far, reader.way(way)[1])
    return [answer for answer in answers if _place_behind(_step(reader, other, way, answer)) == goal][0]


def _is_stand(reader, other, value):
    return is_pair(value) and is_below(value[0], reader.rooms) and is_below(value[1], other.rooms)


def _is_answered(reader, other, value):
    """Whether the value tells rooms of both, an answer to each way, and a number."""
    if not isinstance(value, tuple) or len(value) != 3 or not _is_stand(reader, other, value[0]):
        return False
    (room, far), answers, number = value
    if not is_list(answers) or not is_count(number):
        return False
    for item in answers:
        if not is_pair(item) or not is_below(item[0], reader.many) or not is_below(item[1], other.many):
            return False
        if other.way(item[1])[:2] != (far, reader.way(item[0])[1]):
            return False
    return [way for way, _ in answers] == _all_ways(reader, room)


def _is_left(reader, other, value):
    """Whether the value tells rooms of both, a way of the reader, and a pair of numbers."""
    if not isinstance(value, tuple) or len(value) != 3 or not _is_stand(reader, other, value[0]):
        return False
    (room, _), way, pair = value
    if not is_below(way, reader.many) or reader.way(way)[0] != room:
        return False
    return is_pair(pair) and is_count(pair[0]) and is_count(pair[1])


def _falls(pair, behind, slip, fails):
    """Whether the pair behind a step is as small as it has to be."""
    if slip == 1:
        return behind[0] < pair[0]
    return behind[0] < pair[0] or (behind[0] == pair[0] and (fails == 1 or behind[1] < pair[1]))


def _followed(reader, other, answers, numbers, far):
    """The tuple of the list of the answers to these ways, and of the room to which they lead from far."""
    ways = []
    for number in numbers:
        answer = answers[(reader.way(number)[0], far)][number]
        ways.append(answer)
        far = other.way(answer)[2]
    return ways, far
