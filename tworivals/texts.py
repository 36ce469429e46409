"""The texts of readers [1b3], and the wrong lines of other strings [1b4]."""

from tworivals.checks import MOST_LETTERS, MOST_ROOMS
from tworivals.errors import BadText
from tworivals.readers import MOST_WAYS, Reader, check_reader

KINDS = ("clean", "slip")
HEAD = 2


def reader_text(reader):
    """The reader's text."""
    check_reader(reader)
    lines = [f"letters {reader.letters}\n", f"rooms {reader.rooms}\n"]
    for room, letter, to, slip in reader.ways():
        lines.append(f"way {room} {letter} {to} {KINDS[slip]}\n")
    return "".join(lines)


def reader_of(text):
    """The reader that has this text."""
    if not isinstance(text, str):
        raise BadText(None)
    lines = text.split("\n")
    # What is behind the last line feed is a line only if there is something.
    whole = lines[-1] == ""
    if whole:
        lines.pop()
    letters = _head_number(lines, 0, "letters", MOST_LETTERS)
    rooms = _head_number(lines, 1, "rooms", MOST_ROOMS)
    ways = _read_ways(letters, rooms, lines)
    if len({way[:2] for way in ways}) < letters * rooms:
        raise BadText(len(lines))
    if not whole:
        raise BadText(len(lines) - 1)
    return Reader(letters, rooms, ways)


def _head_number(lines, line, word, most):
    if line >= len(lines):
        raise BadText(line)
    for number in range(1, most + 1):
        if lines[line] == f"{word} {number}":
            return number
    raise BadText(line)


def _read_ways(letters, rooms, lines):
    ways = []
    for line in range(HEAD, len(lines)):
        way = _way_of(letters, rooms, lines[line].split(" "))
        if way is None or len(ways) == MOST_WAYS or (ways and way <= ways[-1]):
            raise BadText(line)
        ways.append(way)
    return ways


def _way_of(letters, rooms, words):
    if len(words) != 5 or words[0] != "way" or words[4] not in KINDS:
        return None
    room = _number_below(rooms, words[1])
    letter = _number_below(letters, words[2])
    to = _number_below(rooms, words[3])
    if room is None or letter is None or to is None:
        return None
    return room, letter, to, KINDS.index(words[4])


def _number_below(bound, word):
    # Comparing leaves no room for signs, needless zeros, or more digits than can be turned into a number.
    for number in range(bound):
        if word == str(number):
            return number
    return None
