"""Endless rows of letters that go round at last, each told by a tuple (begin, again) [5], [1a]."""

from tworivals.checks import LONGEST, MOST_LETTERS, check_letters, check_many, check_place, check_row, check_word
from tworivals.checks import is_row_of
from tworivals.errors import TooMany

FARTHEST = 999999
MOST_SPELLED = 400
MOST_TOGETHER = 12
MOST_ROWS = 400


def is_row(letters, value):
    """Whether the value is a row of so many letters."""
    check_letters(letters)
    return is_row_of(letters, value)


def letter_at(row, place):
    """The row's letter at the place."""
    check_row(MOST_LETTERS, row)
    check_place(place, FARTHEST)
    return _letter(row, place)


def spelled(row, many):
    """The list of so many first letters of the row."""
    check_row(MOST_LETTERS, row)
    check_many(many, MOST_SPELLED)
    return [_letter(row, place) for place in range(many)]


def normal_row(row):
    """The normal one of all rows that are the same as this."""
    check_row(MOST_LETTERS, row)
    return normal_of(row)


def are_same(row, other):
    """Whether both tell one endless row."""
    check_row(MOST_LETTERS, row)
    check_row(MOST_LETTERS, other)
    return normal_of(row) == normal_of(other)


def first_unlike(row, other):
    """The first place at which their letters are unlike, None if they are the same."""
    check_row(MOST_LETTERS, row)
    check_row(MOST_LETTERS, other)
    # Rows that are alike so far go round alike for ever.
    enough = max(len(row[0]), len(other[0])) + len(row[1]) + len(other[1])
    for place in range(enough):
        if _letter(row, place) != _letter(other, place):
            return place
    return None


def turned_on(row, many):
    """The normal of what is left behind so many first letters of the row."""
    check_row(MOST_LETTERS, row)
    check_many(many, FARTHEST)
    begin, again = row
    if many <= len(begin):
        return normal_of((begin[many:], again))
    gone = (many - len(begin)) % len(again)
    return normal_of(((), again[gone:] + again[:gone]))


def put_ahead(word, row):
    """The normal of the row that has the word's letters first."""
    check_word(MOST_LETTERS, word)
    check_row(MOST_LETTERS, row)
    return short_enough(normal_of((tuple(word) + row[0], row[1])))


def woven(row, other):
    """The normal of the row that has the letters of both by turns, this one's first."""
    check_row(MOST_LETTERS, row)
    check_row(MOST_LETTERS, other)
    ahead = max(len(row[0]), len(other[0]))
    # Behind so many turns more both stand at the beginning of their agains once more.
    rounds = len(row[1]) * len(other[1])
    letters = []
    for place in range(ahead + rounds):
        letters.append(_letter(row, place))
        letters.append(_letter(other, place))
    return short_enough(normal_of((tuple(letters[:2 * ahead]), tuple(letters[2 * ahead:]))))


def rows_to(letters, many):
    """The sorted list of the normal rows whose begin and again have so many letters together, or fewer."""
    check_letters(letters)
    check_many(many, MOST_TOGETHER)
    rows = []
    words = [[()]]
    for together in range(1, many + 1):
        longest = [word + (letter,) for word in words[-1] for letter in range(letters)]
        words.append(longest)
        for length in range(together):
            rows = rows + _normal_ones(words[length], words[together - length])
            # Further ones only add to these, and there would be far too many to go through.
            if len(rows) > MOST_ROWS:
                raise TooMany("rows", MOST_ROWS)
    return sorted(rows)


def _letter(row, place):
    begin, again = row
    if place < len(begin):
        return begin[place]
    return again[(place - len(begin)) % len(again)]


def _shortest_round(again):
    for length in range(1, len(again) + 1):
        if len(again) % length == 0 and again[:length] * (len(again) // length) == again:
            return again[:length]
    return again


def normal_of(row):
    """As normal_row, of letters so many as one likes."""
    begin, again = row
    again = _shortest_round(again)
    alike = 0
    while alike < len(begin) and begin[-1 - alike] == again[-1 - alike % len(again)]:
        alike += 1
    back = alike % len(again)
    return begin[:len(begin) - alike], again[len(again) - back:] + again[:len(again) - back]


def short_enough(row):
    """The row, if it isn't too long to be one."""
    if len(row[0]) > LONGEST or len(row[1]) > LONGEST:
        raise TooMany("letters", LONGEST)
    return row


def _normal_ones(begins, agains):
    whole = [again for again in agains if len(_shortest_round(again)) == len(again)]
    return [(begin, again) for begin in begins for again in whole if not begin or begin[-1] != again[-1]]
