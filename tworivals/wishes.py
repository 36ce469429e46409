"""Wishes: hands name letters by turns; hand 0 wishes that their row is let by. And their stand-ins [7a]."""

from tworivals.basics import are_below, is_below, is_count, is_integer, is_list, is_pair, is_rising
from tworivals.boards import Board
from tworivals.breaks import coming_standings, is_standing
from tworivals.checks import LONGEST, MOST_LETTERS, check_hand
from tworivals.errors import InvalidMoves, InvalidOwners, InvalidPlaces, InvalidPlay, InvalidWish
from tworivals.named import in_sequence, named_places
from tworivals.peeling import is_plan, plan_of, winners
from tworivals.readers import check_reader, ways_from
from tworivals.rows import normal_of

MOST_WISHED = 24
MOST_MOVES = 24
# What stands in the place of a letter while none is named.
UNNAMED = -1
FIRST_WISHED = (0, ((0,), (0,)), 0)
FIRST_STAND_IN = (0, 0, -1, 0)


class Wish:
    """A wish board; it never changes."""

    def __init__(self, places, owners, moves):
        if not is_count(places) or not 1 <= places <= MOST_WISHED:
            raise InvalidPlaces(places)
        if not are_below(2, owners) or len(owners) != places:
            raise InvalidOwners(owners)
        if not is_list(moves) or len(moves) != places or not all([_are_moves(places, told) for told in moves]):
            raise InvalidMoves(moves)
        self._owners = list(owners)
        self._moves = [list(told) for told in moves]

    def __eq__(self, other):
        return isinstance(other, Wish) and self._owners == other._owners and self._moves == other._moves

    @property
    def many(self):
        """How many places there are."""
        return len(self._owners)

    def owners(self):
        """The list of the hands that own the places."""
        return list(self._owners)

    def moves(self):
        """For each place the rising list of its moves, tuples (letter, to)."""
        return [list(told) for told in self._moves]


def wish_board(reader, wish):
    """The tuple of the wish's board with break points, and of the sorted list of the tuples that its places are."""
    check_wish_of(reader, wish)
    onward = coming_standings(reader)
    moves = wish.moves()

    def goals_of(name):
        place, standing, _ = name
        steps = [(to, onward[standing][letter]) for letter, to in moves[place]]
        return [(to, behind, 1 if breaks else 0) for to, (behind, breaks) in steps]

    owners = wish.owners()
    names, leads = named_places(FIRST_WISHED, goals_of)
    names, leads = in_sequence(names, leads)
    return Board([owners[name[0]] for name in names], [name[2] for name in names], leads), names


def stand_in_board(reader, wish):
    """The tuple of the board of the stand-in, and of the sorted list of the tuples that its places are."""
    check_wish_of(reader, wish)
    moves = wish.moves()
    owners = wish.owners()
    names, leads = named_places(FIRST_STAND_IN, lambda name: stand_in_goals(reader, moves, name))
    names, leads = in_sequence(names, leads)
    return Board([stand_in_owner(owners, name) for name in names], [name[3] for name in names], leads), names


def wish_winner(reader, wish):
    """The hand that wins the wish."""
    board, names = wish_board(reader, wish)
    return winners(board)[names.index(FIRST_WISHED)]


def stand_in_winner(reader, wish):
    """The hand that wins the stand-in."""
    board, names = stand_in_board(reader, wish)
    return winners(board)[names.index(FIRST_STAND_IN)]


def is_wish_play(wish, value):
    """Whether the value is a told play."""
    check_wish(wish)
    if not is_pair(value) or not is_list(value[0]) or not is_list(value[1]):
        return False
    head, loop = value
    if len(head) > LONGEST or not 1 <= len(loop) <= LONGEST:
        return False
    home = _led(wish, 0, head)
    return home is not None and _led(wish, home, loop) == home


def row_of_play(wish, play):
    """The row of the play, normal."""
    if not is_wish_play(wish, play):
        raise InvalidPlay(play)
    head, loop = play
    return normal_of((tuple([letter for letter, _ in head]), tuple([letter for letter, _ in loop])))


def wish_plan(reader, wish, hand):
    """A plan of the hand for the wish's board that wins from all places from which it wins, told by their tuples."""
    check_wish_of(reader, wish)
    check_hand(hand)
    return _named_plan(wish_board(reader, wish), hand)


def stand_in_plan(reader, wish, hand):
    """A plan of the hand for the stand-in that wins from all places from which it wins, told by their tuples."""
    check_wish_of(reader, wish)
    check_hand(hand)
    return _named_plan(stand_in_board(reader, wish), hand)


def is_wish_plan(reader, wish, hand, value):
    """Whether the value is a plan of the hand for the wish's board that wins from all places from which it wins."""
    check_wish_of(reader, wish)
    check_hand(hand)
    return _is_named_plan(wish_board(reader, wish), hand, value, lambda name: _is_wish_place(reader, name))


def is_stand_in_plan(reader, wish, hand, value):
    """Whether the value is a plan of the hand for the stand-in that wins from all places from which it wins."""
    check_wish_of(reader, wish)
    check_hand(hand)
    return _is_named_plan(stand_in_board(reader, wish), hand, value, _is_stand_in_place)


def check_wish(wish):
    """Only a Wish passes."""
    if not isinstance(wish, Wish):
        raise InvalidWish(wish)


def check_wish_of(reader, wish):
    """Only a Reader passes, and a Wish of its letters."""
    check_reader(reader)
    check_wish(wish)
    if max([letter for told in wish.moves() for letter, _ in told]) >= reader.letters:
        raise InvalidWish(wish)


def is_move(wish, place, value):
    """Whether the value is a move of the place."""
    return is_pair(value) and is_count(value[0]) and is_count(value[1]) and value in wish.moves()[place]


def stand_in_goals(reader, moves, name):
    """The tuples of the places of the stand-in to which one moves from this one; moves are the wish's."""
    place, room, letter, _ = name
    if letter == UNNAMED:
        return [(to, room, named, 0) for named, to in moves[place]]
    return [(place, to, UNNAMED, slip) for _, _, to, slip in ways_from(reader, room, letter)]


def stand_in_owner(owners, name):
    """The hand that owns the place of the stand-in; owners are the wish's."""
    return owners[name[0]] if name[2] == UNNAMED else 0


def _are_moves(places, value):
    if not is_list(value) or not 1 <= len(value) <= MOST_MOVES:
        return False
    if not all([is_pair(move) and is_below(move[0], MOST_LETTERS) and is_below(move[1], places) for move in value]):
        return False
    return is_rising(value)


def _led(wish, place, moves):
    """To which place the moves lead from the place one behind another, None if they don't go on so."""
    for move in moves:
        if not is_move(wish, place, move):
            return None
        place = move[1]
    return place


def _named_plan(told, hand):
    board, names = told
    return [(names[place], names[move]) for place, move in plan_of(board, hand)]


def _is_named_plan(told, hand, value, is_place):
    """Whether the value is such a plan of the board, told by the tuples of its places; is_place tells their kind."""
    board, names = told
    if not is_list(value) or not all([is_pair(item) and is_place(item[0]) and is_place(item[1]) for item in value]):
        return False
    numbers = {name: at for at, name in enumerate(names)}
    if not all([place in numbers and move in numbers for place, move in value]):
        return False
    return is_plan(board, hand, [(numbers[place], numbers[move]) for place, move in value])


def _is_wish_place(reader, value):
    if not isinstance(value, tuple) or len(value) != 3:
        return False
    place, standing, broke = value
    return is_count(place) and is_standing(reader, standing) and is_count(broke)


def _is_stand_in_place(value):
    return isinstance(value, tuple) and len(value) == 4 and all([is_integer(item) for item in value])
