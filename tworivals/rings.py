"""Rings of moves, of which a hand must keep clear [4a4]: leads tell for each place where play goes from there."""

from tworivals.graphs import on_rings


def lost_places(ranks, leads, hand):
    """The rising list of the places that have the greatest rank of some ring, one by which the hand loses."""
    lost = []
    for rank in _foul_ranks(hand):
        ringed = on_rings(leads_within(ranks, leads, rank))
        lost.extend([place for place, own in enumerate(ranks) if own == rank and ringed[place]])
    return sorted(lost)


def _foul_ranks(hand):
    """The ranks by which the hand loses, if they are the greatest ones that come again and again."""
    return (1,) if hand == 0 else (0, 2)


def leads_within(ranks, leads, rank):
    """What is left of the leads where no greater rank comes."""
    found = []
    for place, onward in enumerate(leads):
        found.append([to for to in onward if ranks[to] <= rank] if ranks[place] <= rank else [])
    return found
