"""What a desk keeps and notes at some time, a page, and what deeds make of it [9b2], [9b3], [9b4]."""

from tworivals.claims import is_claim, is_true
from tworivals.cutting import cutting
from tworivals.errors import LabelTaken, NameTaken, TooMany, UnknownLabel, UnknownName
from tworivals.joined import both_of, either_of
from tworivals.readers import Reader, renamed
from tworivals.rows import turned_on, woven

MOST_NAMES = 10
MOST_LABELS = 8
TRUE = "true"
FALSE = "false"
GONE = "gone"
NAMED = ("reader", "row", "other", "name")


class Page:
    """What is kept under names, what is noted under labels, and the state of each label; nothing of it is changed.

    A claim is noted by its word, the kinds of what its line wants, and what this is: names, numbers.
    """

    def __init__(self, things, claims, states):
        self.things = things
        self.claims = claims
        self.states = states


def values_of(page, kinds, parts):
    """What the parts of a command tell, with what is kept in the place of its name; each name and label fits."""
    told = list(zip(kinds, parts))
    for kind, part in told:
        if kind == "NEW" and part in page.things:
            raise NameTaken(part)
        if kind == "FREE" and part in page.claims:
            raise LabelTaken(part)
    values = _with_things(page.things, kinds, parts)
    for kind, part in told:
        if kind == "LABEL" and part not in page.claims:
            raise UnknownLabel(part)
    return values


def page_behind(page, word, kinds, parts):
    """The page behind a deed."""
    values = values_of(page, kinds, parts)
    name = parts[0]
    if word == "claim":
        return _noted(page, kinds, parts, values)
    if word == "forget":
        claims = {label: told for label, told in page.claims.items() if label != name}
        return Page(page.things, claims, {label: page.states[label] for label in claims})
    if word == "drop":
        return _kept(page, {one: thing for one, thing in page.things.items() if one != name}, name)
    things = {**page.things, name: _made(word, values)}
    if len(things) > MOST_NAMES:
        raise TooMany("names", MOST_NAMES)
    return _kept(page, things, name)


def claim_now(page, label):
    """The claim of the label with what is kept, None while its state is gone."""
    return None if page.states[label] == GONE else _claim(page.things, page.claims[label])


def claim_words(page, label):
    """The claim of the label in the words of its line."""
    word, _, parts = page.claims[label]
    return " ".join([word] + [str(part) for part in parts])


def states_line(states):
    """The labels with their states, `-` for none."""
    if not states:
        return "-"
    return ", ".join([f"{label} {states[label]}" for label in sorted(states)])


def changes_line(page, behind):
    """The labels whose states changed from the one page to the other, with their states; `-` for none."""
    return states_line({label: state for label, state in behind.states.items()
                        if label not in page.states or page.states[label] != state})


def _with_things(things, kinds, parts):
    """The parts with what is kept in the place of its name."""
    values = []
    for kind, part in zip(kinds, parts):
        if kind in NAMED:
            # Another one is of the sort of what is ahead of it.
            wanted = _sort_of(values[-1]) if kind == "other" else kind
            if part not in things or wanted not in ("name", _sort_of(things[part])):
                raise UnknownName(part)
            values.append(things[part])
        else:
            values.append(part)
    return values


def _sort_of(thing):
    return "reader" if isinstance(thing, Reader) else "row"


def _made(word, values):
    """What is kept by the deed under its first name."""
    if word == "lay":
        reader, room, letter, to, slip = values
        return Reader(reader.letters, reader.rooms, reader.ways() + [(room, letter, to, slip)])
    if word == "take":
        return _with_one_less(*values)
    if word == "cut":
        return cutting(*values)
    if word == "rename":
        return renamed(*values)
    if word == "turn":
        return turned_on(*values)
    if word == "both":
        return both_of(values[1], values[2])
    if word == "either":
        return either_of(values[1], values[2])
    if word == "weave":
        return woven(values[1], values[2])
    # A reader, a row, or a copy: it is told itself.
    return values[1]


def _with_one_less(reader, number):
    """The reader without the way of this number."""
    gone = reader.way(number)
    return Reader(reader.letters, reader.rooms, [way for way in reader.ways() if way != gone])


def _noted(page, kinds, parts, values):
    """The page with a claim more."""
    label, word, *things = values
    # What is no claim is refused here.
    state = TRUE if is_true((word, *things)) else FALSE
    claims = {**page.claims, label: (word, kinds[2:], parts[2:])}
    if len(claims) > MOST_LABELS:
        raise TooMany("labels", MOST_LABELS)
    return Page(page.things, claims, {**page.states, label: state})


def _kept(page, things, name):
    """The page with these things, of which but that of the name are as ahead."""
    states = {}
    for label, told in page.claims.items():
        states[label] = _state_of(things, told) if name in told[2] else page.states[label]
    return Page(things, page.claims, states)


def _claim(things, told):
    word, kinds, parts = told
    return (word, *_with_things(things, kinds, parts))


def _state_of(things, told):
    """The state of what is noted so, with these things."""
    try:
        claim = _claim(things, told)
    except UnknownName:
        return GONE
    if not is_claim(claim):
        return GONE
    try:
        return TRUE if is_true(claim) else FALSE
    except TooMany:
        return GONE
