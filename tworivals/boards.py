"""Boards on which two hands move without end, and who wins from where, by going through all plans [4a1], [4a4]."""

from tworivals.basics import are_below, is_list, is_rising
from tworivals.checks import check_place
from tworivals.errors import InvalidBoard, InvalidMoves, InvalidOwners, InvalidRanks, TooMany
from tworivals.graphs import fewest_steps, turned_round
from tworivals.rings import lost_places

MOST_PLACES = 600
MOST_PLANS = 2000


class Board:
    """A board; it never changes."""

    def __init__(self, owners, ranks, moves):
        if not are_below(2, owners) or not 1 <= len(owners) <= MOST_PLACES:
            raise InvalidOwners(owners)
        if not are_below(3, ranks) or len(ranks) != len(owners):
            raise InvalidRanks(ranks)
        if not _are_moves(len(owners), moves):
            raise InvalidMoves(moves)
        self._owners = list(owners)
        self._ranks = list(ranks)
        self._moves = [list(places) for places in moves]

    def __eq__(self, other):
        return (isinstance(other, Board) and self._owners == other._owners and self._ranks == other._ranks
                and self._moves == other._moves)

    @property
    def many(self):
        """How many places there are."""
        return len(self._owners)

    def owners(self):
        """The list of the hands that own the places."""
        return list(self._owners)

    def ranks(self):
        """The list of the ranks of the places."""
        return list(self._ranks)

    def moves(self):
        """For each place the rising list of the places to which one can move from it."""
        return [list(places) for places in self._moves]


def plain_winners(board):
    """The list of who wins from each place, by all plans of hand 0."""
    check_board(board)
    ranks = board.ranks()
    owners = board.owners()
    choices = [(moves if owners[place] == 0 else []) for place, moves in enumerate(board.moves())]
    if _many_plans(choices) > MOST_PLANS:
        raise TooMany("plans", MOST_PLANS)
    winners = [1] * board.many
    for number in range(_many_plans(choices)):
        leads = _leads_by(board, choices, number)
        lost = fewest_steps(turned_round(leads), lost_places(ranks, leads, 0))
        winners = [0 if lost[place] is None else winner for place, winner in enumerate(winners)]
    return winners


def check_board(board):
    """Only a Board passes."""
    if not isinstance(board, Board):
        raise InvalidBoard(board)


def check_place_of(board, place):
    """Only a place of the board passes."""
    check_place(place, board.many - 1)


def are_places(many, value):
    """Whether the value is a rising list of places, so many there being, perhaps none."""
    return are_below(many, value) and is_rising(value)


def _are_moves(many, value):
    if not is_list(value) or len(value) != many:
        return False
    return all([are_places(many, places) and len(places) > 0 for places in value])


def _many_plans(choices):
    """The number of all plans, or one that is too great, too."""
    many = 1
    for moves in choices:
        if moves and many <= MOST_PLANS:
            many *= len(moves)
    return many


def _leads_by(board, choices, number):
    """The moves that are left where hand 0 moves by the plan of this number."""
    leads = board.moves()
    for place, moves in enumerate(choices):
        if moves:
            leads[place] = [moves[number % len(moves)]]
            number = number // len(moves)
    return leads
