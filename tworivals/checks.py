"""The checks of what is passed that need no Reader: each raises the error that belongs to its value."""

from tworivals.basics import is_below, is_count, is_list, is_pair
from tworivals.errors import InvalidHand, InvalidLetter, InvalidLetters, InvalidMany, InvalidPlace, InvalidRoom
from tworivals.errors import InvalidRooms, InvalidRow, InvalidWord

MOST_LETTERS = 4
MOST_ROOMS = 12
LONGEST = 40


def is_word(letters, value):
    """Whether the value is a list of letters, so many there being, perhaps none, not too long."""
    return is_list(value) and len(value) <= LONGEST and all([is_below(letter, letters) for letter in value])


def is_row_of(letters, value):
    """Whether the value is a row of so many letters."""
    if not is_pair(value) or not isinstance(value[0], tuple) or not isinstance(value[1], tuple):
        return False
    return is_word(letters, value[0]) and is_word(letters, value[1]) and len(value[1]) > 0


def check_letters(letters):
    """Only a number of letters passes."""
    if not is_count(letters) or not 1 <= letters <= MOST_LETTERS:
        raise InvalidLetters(letters)


def check_rooms(rooms):
    """Only a number of rooms passes."""
    if not is_count(rooms) or not 1 <= rooms <= MOST_ROOMS:
        raise InvalidRooms(rooms)


def check_letter(letters, letter):
    """Only a letter passes, so many there being."""
    if not is_below(letter, letters):
        raise InvalidLetter(letter)


def check_room(rooms, room):
    """Only a room passes, so many there being."""
    if not is_below(room, rooms):
        raise InvalidRoom(room)


def check_word(letters, word):
    """Only a word of so many letters passes."""
    if not is_word(letters, word):
        raise InvalidWord(word)


def check_row(letters, row):
    """Only a row of so many letters passes."""
    if not is_row_of(letters, row):
        raise InvalidRow(row)


def check_place(place, most):
    """Only a COUNT that is not above the most passes."""
    if not is_below(place, most + 1):
        raise InvalidPlace(place)


def check_many(many, most):
    """Only a COUNT that is not above the most passes."""
    if not is_below(many, most + 1):
        raise InvalidMany(many)


def check_hand(hand):
    """Only one of the two hands passes."""
    if not is_below(hand, 2):
        raise InvalidHand(hand)
