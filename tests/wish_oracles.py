"""Wishes, failing boards, step plays and joined readers told another way, as plainly as the words of the document go."""

import random

from tests import board_oracles, oracles, play_oracles
from tests.oracles import FIRST, going_on, is_standing, plain_count, ways_from
from tests.play_oracles import is_list
from tests.tools import some_ways
from tworivals.readers import Reader
from tworivals.wishes import Wish

PLAIN_FIRST = (0, FIRST, 0)
STAND_IN_FIRST = (0, 0, -1, 0)


def some_moves(source, letters, places, most):
    every = [(letter, to) for letter in range(letters) for to in range(places)]
    return sorted(source.sample(every, source.randint(1, min(most, len(every)))))


def some_wish(source, letters, places=4, most=3):
    """A wish of at most so many letters, places, and moves of a place."""
    many = source.randint(1, places)
    owners = [source.randrange(2) for _ in range(many)]
    return Wish(many, owners, [some_moves(source, letters, many, most) for _ in range(many)])


def some_games(many, seed=1, readers=None, places=4):
    """So many pairs of a reader and a wish of its letters, the same each time."""
    source = random.Random(seed)
    readers = play_oracles.small_readers(many, seed) if readers is None else readers
    return [(reader, some_wish(source, reader.letters, places)) for reader in readers]


def wish_goals(reader, wish, name):
    place, standing, _ = name
    goals = []
    for letter, to in wish.moves()[place]:
        behind, breaks = going_on(reader, standing, letter)
        goals.append((to, behind, int(breaks)))
    return goals


def stand_in_goals(reader, wish, name):
    place, room, letter, _ = name
    if letter == -1:
        return [(to, room, named, 0) for named, to in wish.moves()[place]]
    return [(place, way[2], -1, way[3]) for way in ways_from(reader, room, letter)]


def named_board(first, goals_of, owner_of, rank_of):
    """The board of the places that come, sorted, with their names; None and the names where there are too many."""
    board, names = play_oracles.grown_board(first, goals_of, owner_of, rank_of)
    return (None, names) if board is None else play_oracles.told_board(sorted(names), goals_of, owner_of, rank_of)


def wish_board(reader, wish):
    return named_board(PLAIN_FIRST, lambda name: wish_goals(reader, wish, name), lambda name: wish.owners()[name[0]],
                       lambda name: name[2])


def stand_in_board(reader, wish):
    return named_board(STAND_IN_FIRST, lambda name: stand_in_goals(reader, wish, name),
                       lambda name: wish.owners()[name[0]] if name[2] == -1 else 0, lambda name: name[3])


def winner(told, first):
    """Who wins the board of the tuple told from the place of the name first."""
    board, names = told
    return board_oracles.winners_by_lifting(board)[names.index(first)]


def is_named_plan(told, hand, value):
    """Whether the value is a plan, told by names, for just the hand's places from which it wins, that wins there."""
    board, names = told
    if not is_list(value):
        return False
    for item in value:
        if type(item) is not tuple or len(item) != 2 or not all(is_name(names, part) for part in item):
            return False
    plan = [(names.index(place), names.index(move)) for place, move in value]
    winners = board_oracles.winners_by_lifting(board)
    won = [place for place in range(board.many) if winners[place] == hand]
    if [place for place, _ in plan] != [place for place in won if board.owners()[place] == hand]:
        return False
    if not board_oracles.is_partial_plan(board, hand, plan):
        return False
    return board_oracles.plan_wins(board, hand, plan) == won


def is_name(names, value):
    """Whether the value is one of the names, of just the same kinds."""
    return any(repr(value) == repr(name) for name in names if type(value) is tuple)


def is_wish_move(wish, place, value):
    return type(value) is tuple and len(value) == 2 and all(plain_count(part, 99) for part in value) \
        and value in wish.moves()[place]


def is_wish_play(wish, value, most=40):
    if type(value) is not tuple or len(value) != 2 or not all(is_list(part) for part in value):
        return False
    head, loop = value
    if len(head) > most or not 1 <= len(loop) <= most:
        return False
    place, home = 0, None
    for at, move in enumerate([*head, *loop]):
        home = place if at == len(head) else home
        if not is_wish_move(wish, place, move):
            return False
        place = move[1]
    return place == home


def row_of(play):
    """The row of a play, however long it is."""
    return tuple(tuple(letter for letter, _ in part) for part in play)


def pair_steps(reader, wish):
    """A dict: for each pair (place, standing) that comes the list of (pair, whether the standing breaks)."""
    come = {}
    waiting = [(0, FIRST)]
    while waiting:
        pair = waiting.pop()
        if pair not in come:
            come[pair] = [(name[:2], name[2]) for name in wish_goals(reader, wish, (*pair, 0))]
            waiting += [to for to, _ in come[pair]]
    return come


def is_all_let(reader, wish):
    steps = pair_steps(reader, wish)
    return oracles.least_numbers(steps, len(steps)) is not None


def is_let_paper(reader, wish, value):
    if not is_list(value):
        return False
    for item in value:
        if type(item) is not tuple or len(item) != 2 or type(item[0]) is not tuple or len(item[0]) != 2:
            return False
        if not plain_count(item[0][0], wish.many) or not is_standing(reader, item[0][1]):
            return False
        if not plain_count(item[1], 10 ** 7):
            return False
    numbers = dict(value)
    if list(value) != sorted(numbers.items()) or (0, FIRST) not in numbers:
        return False
    for pair, number in numbers.items():
        for place, standing, breaks in wish_goals(reader, wish, (*pair, 0)):
            if (place, standing) not in numbers or numbers[(place, standing)] > number - breaks:
                return False
    return True


def is_spoil_paper(reader, wish, value):
    if not is_list(value):
        return False
    for item in value:
        if type(item) is not tuple or len(item) != 3 or type(item[0]) is not tuple or len(item[0]) != 2:
            return False
        (place, room), move, number = item
        if not plain_count(place, wish.many) or not plain_count(room, reader.rooms) or not plain_count(number, 10 ** 7):
            return False
        if wish.owners()[place] == 0 and move is not None:
            return False
        if wish.owners()[place] == 1 and not is_wish_move(wish, place, move):
            return False
    numbers = {item[0]: item[2] for item in value}
    if [item[0] for item in value] != sorted(numbers) or (0, 0) not in numbers:
        return False
    for (place, room), move, number in value:
        for letter, to in wish.moves()[place] if move is None else [move]:
            for way in ways_from(reader, room, letter):
                if (to, way[2]) not in numbers or way[3] == 0 and not numbers[(to, way[2])] < number:
                    return False
    return True


def spoils(reader, wish):
    """Whether hand 1 wins the stand-in, however many places it has."""
    names = [STAND_IN_FIRST]
    for name in names:
        names += [goal for goal in dict.fromkeys(stand_in_goals(reader, wish, name)) if goal not in names]
    return 1 == winner(big_board(names, lambda name: stand_in_goals(reader, wish, name),
                                 lambda name: wish.owners()[name[0]] if name[2] == -1 else 0,
                                 lambda name: name[3]), STAND_IN_FIRST)


class BigBoard:
    """What is asked of a board, but with as many places as one likes."""

    def __init__(self, owners, ranks, moves):
        self.many = len(owners)
        self.parts = (owners, ranks, moves)

    def owners(self):
        return self.parts[0]

    def ranks(self):
        return self.parts[1]

    def moves(self):
        return self.parts[2]


def big_board(names, goals_of, owner_of, rank_of):
    numbers = {name: at for at, name in enumerate(names)}
    moves = [sorted({numbers[goal] for goal in goals_of(name)}) for name in names]
    return BigBoard([owner_of(name) for name in names], [rank_of(name) for name in names], moves), names


def step_goals(reader, other, name):
    if name[0] == "foe":
        _, room, far, _ = name
        return [("answer", number, far) for number, way in enumerate(reader.ways()) if way[0] == room]
    _, number, far = name
    _, letter, to, slip = reader.ways()[number]
    return [("foe", to, way[2], 2 if slip else way[3]) for way in ways_from(other, far, letter)]


def step_board(reader, other):
    return play_oracles.grown_board(("foe", 0, 0, 0), lambda name: step_goals(reader, other, name),
                                    lambda name: int(name[0] == "foe"),
                                    lambda name: name[3] if name[0] == "foe" else 0)


def is_stand(reader, other, value):
    return type(value) is tuple and len(value) == 2 and plain_count(value[0], reader.rooms) \
        and plain_count(value[1], other.rooms)


def stands_of(reader, other, value):
    """A dict of the rising items of a list by their rooms, None if it isn't one of tuples of three."""
    if not is_list(value):
        return None
    for item in value:
        if type(item) is not tuple or len(item) != 3 or not is_stand(reader, other, item[0]):
            return None
    stands = [item[0] for item in value]
    if stands != sorted(set(stands)) or (0, 0) not in stands:
        return None
    return {item[0]: item[1:] for item in value}


def is_following_paper(reader, other, value):
    items = stands_of(reader, other, value)
    if items is None:
        return False
    for (room, far), (answers, number) in items.items():
        if not is_list(answers) or not plain_count(number, 10 ** 40):
            return False
        own = [at for at, way in enumerate(reader.ways()) if way[0] == room]
        if len(answers) != len(own):
            return False
        for at, item in zip(own, answers):
            if type(item) is not tuple or len(item) != 2 or not plain_count(item[0], 99) or item[0] != at:
                return False
            if not plain_count(item[1], other.many):
                return False
            if other.ways()[item[1]][:2] != (far, reader.ways()[at][1]):
                return False
    for answers, number in items.values():
        for way, answer in answers:
            (_, _, to, slip), (_, _, behind, fails) = reader.ways()[way], other.ways()[answer]
            if (to, behind) not in items:
                return False
            if not slip and not (items[(to, behind)][1] < number if fails else items[(to, behind)][1] <= number):
                return False
    return True


def is_leaving_paper(reader, other, value):
    items = stands_of(reader, other, value)
    if items is None:
        return False
    for (room, far), (way, pair) in items.items():
        if not plain_count(way, reader.many) or reader.ways()[way][0] != room:
            return False
        if type(pair) is not tuple or len(pair) != 2 or not all(plain_count(part, 10 ** 40) for part in pair):
            return False
    for (room, far), (way, (a, b)) in items.items():
        _, letter, to, slip = reader.ways()[way]
        for answer in ways_from(other, far, letter):
            if (to, answer[2]) not in items:
                return False
            c, d = items[(to, answer[2])][1]
            if slip and not c < a or c > a or c == a and not answer[3] and not d < b:
                return False
    return True


def followed(reader, other, paper, run):
    """The run by which the other one follows the run, loop by loop."""
    answers = {(stand, way): answer for stand, told, _ in paper for way, answer in told}
    far, gone, starts = 0, [], []
    head, loop = run
    for way in head:
        gone.append(answers[((reader.ways()[way][0], far), way)])
        far = other.ways()[gone[-1]][2]
    while far not in starts:
        starts.append(far)
        for way in loop:
            gone.append(answers[((reader.ways()[way][0], far), way)])
            far = other.ways()[gone[-1]][2]
    ahead = len(head) + starts.index(far) * len(loop)
    return gone[:ahead], gone[ahead:]


def joined(reader, other, trusts):
    """The rooms and the ways of the reader of both, or, with trusts, of that of either."""
    rooms = [(0, 0, 0) if trusts else (0, 0)]
    ways = {}
    for at, room in enumerate(rooms):
        for letter in range(reader.letters):
            for one in ways_from(reader, room[0], letter):
                for two in ways_from(other, room[1], letter):
                    slip = (one, two)[room[2]][3] if trusts else one[3] | two[3]
                    to = (one[2], two[2], room[2] ^ slip) if trusts else (one[2], two[2])
                    if to not in rooms:
                        rooms.append(to)
                    ways[(at, letter, rooms.index(to), slip)] = True
    return rooms, sorted(ways)


def some_pairs(many, seed=1, letters=(1, 2, 2, 3), rooms=(1, 2, 3)):
    """So many pairs of small readers of as many letters, the same each time."""
    source = random.Random(seed)
    pairs = []
    while len(pairs) < many:
        alike = source.choice(letters)
        pairs.append(tuple(Reader(alike, size, some_ways(source, alike, size, source.randrange(1, 5)))
                           for size in (source.choice(rooms), source.choice(rooms))))
    return pairs
