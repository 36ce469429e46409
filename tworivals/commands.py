"""The commands of a desk: which strings are some by their words alone, and what their parts tell [9b1], [9b4]."""

from tworivals.checks import LONGEST, MOST_LETTERS
from tworivals.errors import BadText
from tworivals.texts import KINDS, reader_of, reader_text

SMALL = "abcdefghijklmnopqrstuvwxyz"
DIGITS = "0123456789"
LONGEST_NAME = 8
MOST_DIGITS = 6
LONGEST_LIST = 96

# Of each deed the kinds of its parts: "NEW" is a name of nothing, "LABEL" a label under which a claim is noted.
DEEDS = {
    "reader": ("NEW", "LINES"), "row": ("NEW", "ROW"), "lay": ("reader", "COUNT", "COUNT", "COUNT", "KIND"),
    "take": ("reader", "COUNT"), "cut": ("reader", "LIST"), "rename": ("reader", "LIST"),
    "both": ("NEW", "reader", "other"), "either": ("NEW", "reader", "other"), "turn": ("row", "COUNT"),
    "weave": ("NEW", "row", "other"), "copy": ("NEW", "name"), "drop": ("name",), "forget": ("LABEL",),
}
# Of each word of a claim the kinds of what its line wants behind the label, which is "FREE", and the word.
CLAIMS = {
    "let": ("reader", "row"), "barred": ("reader", "row"), "within": ("reader", "other"),
    "parted": ("reader", "other"), "chooser": ("reader",), "none": ("reader",), "ahead": ("reader", "COUNT"),
    "beaten": ("reader", "COUNT"), "follows": ("reader", "other"), "leaves": ("reader", "other"),
}
QUESTIONS = {
    "undo": (), "redo": (), "state": ("LABEL",), "states": (), "claimed": ("LABEL",), "names": (), "show": ("name",),
    "same": ("name", "other"), "single": ("reader",), "memory": ("reader",), "behind": ("reader", "LIST"),
    "standings": ("reader",), "first": ("reader", "COUNT"), "letters": ("row", "COUNT"), "unlike": ("row", "other"),
}


def is_name(value):
    """Whether the value is a name."""
    if not isinstance(value, str) or not 1 <= len(value) <= LONGEST_NAME:
        return False
    return value[0] in SMALL and all([sign in SMALL or sign in DIGITS for sign in value])


def is_command(value):
    """Whether the value is a command by its words alone."""
    return parsed(value) is not None


def is_deed(value):
    """Whether the value is a deed."""
    told = parsed(value)
    return told is not None and is_deed_word(told[0])


def is_deed_word(word):
    """Whether a command that begins with this word is a deed."""
    return word == "claim" or word in DEEDS


def parsed(value):
    """The tuple (first word, kinds of parts, what the parts tell) of a command, None if the value is none."""
    if not isinstance(value, str):
        return None
    # The lines of a reader have blanks of their own.
    parts = value.split(" ", 2) if value.startswith("reader ") else value.split(" ")
    kinds = _kinds_of(parts)
    if kinds is None or len(kinds) != len(parts) - 1:
        return None
    told = [_told(kind, part) for kind, part in zip(kinds, parts[1:])]
    return None if None in told else (parts[0], kinds, told)


def list_line(numbers):
    """The numbers as a LIST, `-` for none."""
    return ",".join([str(number) for number in numbers]) if numbers else "-"


def row_line(row):
    """The row as a ROW."""
    return f"{list_line(row[0])}/{list_line(row[1])}"


def reader_line(reader):
    """The reader's LINES."""
    return "; ".join(reader_text(reader).splitlines())


def _kinds_of(parts):
    """The kinds of the parts of a command that begins so, None if none does."""
    word = parts[0]
    if word == "claim":
        return ("FREE", "WORD") + CLAIMS[parts[2]] if len(parts) > 2 and parts[2] in CLAIMS else None
    if word in DEEDS:
        return DEEDS[word]
    return QUESTIONS[word] if word in QUESTIONS else None


def _told(kind, part):
    """What a part of this kind tells, None if it is none."""
    if kind == "COUNT":
        return _number(part)
    if kind == "LIST":
        return _numbers(part)
    if kind == "ROW":
        return _row(part)
    if kind == "KIND":
        return KINDS.index(part) if part in KINDS else None
    if kind == "LINES":
        return _reader(part)
    # Of the words of claims, too, each is like a name.
    return part if is_name(part) else None


def _number(part):
    if not 1 <= len(part) <= MOST_DIGITS or not all([sign in DIGITS for sign in part]):
        return None
    return None if len(part) > 1 and part[0] == "0" else int(part)


def _numbers(part):
    numbers = [_number(word) for word in part.split(",")]
    return None if len(numbers) > LONGEST_LIST or None in numbers else numbers


def _row(part):
    halves = part.split("/")
    if len(halves) != 2:
        return None
    begin = () if halves[0] == "-" else _letters(halves[0])
    again = _letters(halves[1])
    return None if begin is None or again is None else (begin, again)


def _letters(part):
    numbers = _numbers(part)
    if numbers is None or len(numbers) > LONGEST or max(numbers) >= MOST_LETTERS:
        return None
    return tuple(numbers)


def _reader(part):
    # A line feed would be a line's end where there is no semicolon.
    if "\n" in part:
        return None
    text = part.replace("; ", "\n")
    try:
        return reader_of(f"{text}\n")
    except BadText:
        return None
