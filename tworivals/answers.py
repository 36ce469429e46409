"""The answers to commands that are no deeds, and neither take one back nor do it again [9b4]."""

from tworivals.breaks import standings
from tworivals.commands import list_line, reader_line, row_line
from tworivals.cutting import is_one_memory
from tworivals.pages import claim_words, states_line
from tworivals.readers import Reader, is_single
from tworivals.rows import are_same, first_unlike, spelled
from tworivals.runs import rooms_behind
from tworivals.shown import first_let


def answer_to(page, word, values):
    """The answer to the question of this word, with what is kept in the place of its name."""
    if word in ("state", "states", "claimed", "names"):
        return _of_the_page(page, word, values)
    if word in ("show", "same"):
        return _of_things(word, values)
    if word in ("letters", "unlike"):
        return _of_rows(word, values)
    return _of_readers(word, values)


def _of_the_page(page, word, values):
    if word == "state":
        return page.states[values[0]]
    if word == "claimed":
        return claim_words(page, values[0])
    if word == "states":
        return states_line(page.states)
    return " ".join(sorted(page.things)) if page.things else "-"


def _of_things(word, values):
    thing = values[0]
    if word == "show":
        return reader_line(thing) if isinstance(thing, Reader) else row_line(thing)
    return _yes_or_no(thing == values[1] if isinstance(thing, Reader) else are_same(*values))


def _of_rows(word, values):
    if word == "letters":
        return list_line(spelled(*values))
    place = first_unlike(*values)
    return "-" if place is None else str(place)


def _of_readers(word, values):
    if word == "single":
        return _yes_or_no(is_single(*values))
    if word == "memory":
        return _yes_or_no(is_one_memory(*values))
    if word == "behind":
        return list_line(rooms_behind(*values))
    if word == "standings":
        return str(len(standings(*values)))
    row = first_let(*values)
    return "-" if row is None else row_line(row)


def _yes_or_no(told):
    return "yes" if told else "no"
