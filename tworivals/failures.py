"""Failing wishes, which hand 0 can't lose, but loses with the reader in their place; foes make them [7b4], [7b5]."""

from tworivals.basics import is_pair
from tworivals.errors import TooMany
from tworivals.failing import is_let_paper, is_spoil_paper, let_paper, spoil_paper
from tworivals.foes import check_foe, foe_of
from tworivals.graphs import numbered
from tworivals.positions import FIRST_POSITION, steps_by
from tworivals.readers import check_reader
from tworivals.wishes import MOST_WISHED, Wish, check_wish_of


def is_failing(reader, wish):
    """Whether the wish is failing for the reader."""
    return failing_paper(reader, wish) is not None


def failing_paper(reader, wish):
    """A failing paper, None if the wish isn't failing."""
    let = let_paper(reader, wish)
    if let is None:
        return None
    spoil = spoil_paper(reader, wish)
    if spoil is None:
        return None
    return let, spoil


def is_failing_paper(reader, wish, value):
    """Whether the value is a failing paper."""
    check_wish_of(reader, wish)
    return is_pair(value) and is_let_paper(reader, wish, value[0]) and is_spoil_paper(reader, wish, value[1])


def foe_wish(reader, foe):
    """The foe's board: the first place, and one behind each of the foe's positions."""
    check_reader(reader)
    check_foe(reader, foe)
    if len(foe) + 1 > MOST_WISHED:
        raise TooMany("places", MOST_WISHED)
    letters = {position: letter for position, letter in foe}
    places = {item[0]: at + 1 for at, item in enumerate(foe)}
    moves = [[(letters[FIRST_POSITION], places[FIRST_POSITION])]]
    for position, letter in foe:
        behind = [to for _, to, _, _ in steps_by(reader, position, letter)]
        moves.append(sorted({(letters[to], places[to]) for to in behind}))
    return Wish(len(moves), [1] * len(moves), moves)


def failing_wish(reader):
    """A failing wish, None if the reader has a chooser."""
    foe = foe_of(reader)
    if foe is None:
        return None
    # All positions count, whether they come along this foe or not: it doesn't hang on which foe is told.
    if len(_coming_positions(reader)) + 1 > MOST_WISHED:
        raise TooMany("places", MOST_WISHED)
    return foe_wish(reader, foe)


def _coming_positions(reader):
    """The list of the positions that come, by whatever letters and ways."""

    def steps_of(position):
        return [(to,) for letter in range(reader.letters) for _, to, _, _ in steps_by(reader, position, letter)]

    positions, _ = numbered(FIRST_POSITION, steps_of)
    return positions
