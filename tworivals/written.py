"""Things written as strings, and read again; how far a string can be read [9a1], [9a2], [9a3]."""

from tworivals.basics import is_below, is_list, is_pair
from tworivals.boards import Board
from tworivals.checks import MOST_LETTERS, is_row_of
from tworivals.errors import InvalidSort, InvalidThing, RivalError, TooMany, UnreadText
from tworivals.readers import Reader
from tworivals.runs import MOST_HEAD, MOST_LOOP

SORTS = ("reader", "board", "row", "run", "heights")
MOST_SIGNS = 20000
MOST_HEIGHTS = 600
MOST_DIGITS = 30
TOO_GREAT = 1000000000000000000000000000000
DIGITS = "0123456789"
CLOSING = {"[": "]", "(": ")"}
# What may come next in a string: a thing or the end of a list, a thing, or neither.
OPENED = 0
PARTED = 1
BEHIND = 2


def is_of_sort(sort, value):
    """Whether the value is of the sort."""
    _check_sort(sort)
    if sort == "reader":
        return isinstance(value, Reader)
    if sort == "board":
        return isinstance(value, Board)
    if sort == "row":
        return is_row_of(MOST_LETTERS, value)
    if sort == "run":
        if not is_pair(value) or not _are_numbers(value[0], MOST_HEAD) or not _are_numbers(value[1], MOST_LOOP):
            return False
        return len(value[1]) > 0
    return is_list(value) and len(value) <= MOST_HEIGHTS and all([_is_height(item) for item in value])


def written(sort, value):
    """The thing of the sort, written."""
    if not is_of_sort(sort, value):
        raise InvalidThing(value)
    text = _text_of(_plain(sort, value))
    if len(text) > MOST_SIGNS:
        raise TooMany("signs", MOST_SIGNS)
    return text


def read(sort, text):
    """The thing of the sort whose written form the text is."""
    _check_sort(sort)
    if not isinstance(text, str):
        raise UnreadText(None)
    thing = _thing_of(sort, _tree_of(text))
    # Of what is read another form may be the written one: ways that are not sorted, a tuple for a list.
    if not is_of_sort(sort, thing) or _text_of(_plain(sort, thing)) != text:
        raise UnreadText(None)
    return thing


def _check_sort(sort):
    """Only the word of a sort passes."""
    if sort not in SORTS:
        raise InvalidSort(sort)


def _is_number(value):
    return is_below(value, TOO_GREAT)


def _are_numbers(value, most):
    return is_list(value) and len(value) <= most and all([_is_number(item) for item in value])


def _is_height(value):
    return isinstance(value, tuple) and len(value) == 3 and all([_is_number(item) for item in value])


def _plain(sort, thing):
    """What is written of the thing: COUNTS, lists and tuples."""
    if sort == "reader":
        return thing.letters, thing.rooms, thing.ways()
    if sort == "board":
        return thing.owners(), thing.ranks(), thing.moves()
    if sort == "run":
        return list(thing[0]), list(thing[1])
    return list(thing) if sort == "heights" else thing


def _text_of(value):
    """The value, a COUNT or a list or tuple, written."""
    if not is_list(value):
        return str(value)
    inside = " ".join([_text_of(item) for item in value])
    return f"[{inside}]" if isinstance(value, list) else f"({inside})"


def _thing_of(sort, tree):
    """What the tree tells of this sort, None where it tells no Reader, no Board."""
    if sort not in ("reader", "board"):
        return tree
    if not isinstance(tree, tuple) or len(tree) != 3:
        return None
    first, second, third = tree
    try:
        return Reader(first, second, third) if sort == "reader" else Board(first, second, third)
    except RivalError:
        return None


def _tree_of(text):
    """What is written in the text: a COUNT, a list or a tuple; None stands for a COUNT of too many digits."""
    waiting = []
    levels = [[]]
    state = OPENED
    at = 0
    while at < len(text):
        sign = text[at]
        end = at + 1
        if sign in DIGITS and state != BEHIND:
            end = _number_end(text, at)
            levels[-1].append(int(text[at:end]) if end - at <= MOST_DIGITS else None)
            state = BEHIND
        elif sign in CLOSING and state != BEHIND:
            waiting.append(sign)
            levels.append([])
            state = OPENED
        elif waiting and sign == " " and state == BEHIND:
            state = PARTED
        elif waiting and sign == CLOSING[waiting[-1]] and state != PARTED:
            inside = levels.pop()
            levels[-1].append(inside if waiting.pop() == "[" else tuple(inside))
            state = BEHIND
        else:
            raise UnreadText(at)
        at = end
    if waiting or state != BEHIND:
        raise UnreadText(len(text))
    return levels[0][0]


def _number_end(text, at):
    """Where the COUNT that begins there ends."""
    end = at + 1
    # Behind a nought that is ahead of all other digits there are none.
    while text[at] != "0" and end < len(text) and text[end] in DIGITS:
        end += 1
    return end
