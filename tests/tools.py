"""What the tests share: values of every kind, readers and rows, and ways of asking that check what holds of every call."""

import copy
import random
import unittest

from tworivals.boards import Board
from tworivals.desk import Desk
from tworivals.errors import InvalidRow, NoMove, TooMany, UnlikeLetters
from tworivals.readers import Reader
from tworivals.wishes import Wish

# The parameters of each function, as the interface names them.
PARAMETERS = {
    "is_integer": ["value"], "is_count": ["value"],
    "is_row": ["letters", "value"], "letter_at": ["row", "place"], "spelled": ["row", "many"],
    "normal_row": ["row"], "are_same": ["row", "other"], "first_unlike": ["row", "other"],
    "turned_on": ["row", "many"], "put_ahead": ["word", "row"], "woven": ["row", "other"],
    "rows_to": ["letters", "many"],
    "Reader": ["letters", "rooms", "ways"], "way": ["number"], "ways": [], "ways_by": ["room", "letter"],
    "is_single": ["reader"], "renamed": ["reader", "order"],
    "reader_text": ["reader"], "reader_of": ["text"],
    "is_run": ["reader", "row", "value"], "slips_of": ["reader", "run"], "lets_by": ["reader", "row"],
    "clean_run": ["reader", "row"], "rooms_behind": ["reader", "word"],
    "spots": ["reader", "row"], "clean_ring": ["reader", "row"], "least_heights": ["reader", "row"],
    "height_paper": ["reader", "row"], "is_height_paper": ["reader", "row", "value"],
    "shown": ["reader", "row"], "is_shown": ["reader", "row", "value"], "all_let": ["reader", "many"],
    "all_barred": ["reader", "many"], "first_let": ["reader", "many"], "first_barred": ["reader", "many"],
    "next_standing": ["reader", "standing", "letter"], "standing_behind": ["reader", "word"],
    "standings": ["reader"], "break_table": ["reader"], "lets_by_breaks": ["reader", "row"],
    "is_within": ["reader", "other"], "are_equal": ["reader", "other"], "within_paper": ["reader", "other"],
    "is_within_paper": ["reader", "other", "value"], "parting_row": ["reader", "other"],
    "is_parting_row": ["reader", "other", "value"],
    "Board": ["owners", "ranks", "moves"], "owners": [], "ranks": [], "moves": [], "plain_winners": ["board"],
    "pulled": ["board", "hand", "lot"], "peeled": ["board"], "winners": ["board"], "plan_of": ["board", "hand"],
    "is_plan": ["board", "hand", "value"],
    "is_play": ["board", "value"], "who_wins": ["board", "play"], "play_of": ["board", "place", "plan", "other"],
    "plan_wins": ["board", "hand", "plan"], "lost_play": ["board", "hand", "place", "plan"],
    "win_paper": ["board", "hand"], "is_win_paper": ["board", "hand", "value"],
    "letter_board": ["reader"], "has_chooser": ["reader"], "chooser_paper": ["reader"], "foe_paper": ["reader"],
    "is_chooser_paper": ["reader", "value"], "is_foe_paper": ["reader", "value"],
    "is_table": ["reader", "value"], "run_by": ["reader", "table", "row"], "keeps": ["reader", "table", "row"],
    "is_chooser": ["reader", "value"], "chooser_of": ["reader"], "wrong_row": ["reader", "table"],
    "is_wrong_row": ["reader", "table", "value"],
    "turned": ["reader", "state", "letter", "way", "ways"], "rival_board": ["reader", "many"],
    "wins_rivals": ["reader", "many"], "rivals_paper": ["reader", "many"], "is_rivals_paper": ["reader", "many", "value"],
    "foe_of": ["reader"], "is_foe": ["reader", "value"], "spoilt_run": ["reader", "foe", "table"],
    "spoilt_row": ["reader", "foe", "table"], "beats": ["reader", "row", "table"],
    "Wish": ["places", "owners", "moves"], "wish_board": ["reader", "wish"], "stand_in_board": ["reader", "wish"],
    "wish_winner": ["reader", "wish"], "stand_in_winner": ["reader", "wish"], "is_wish_play": ["wish", "value"],
    "row_of_play": ["wish", "play"], "wish_plan": ["reader", "wish", "hand"],
    "stand_in_plan": ["reader", "wish", "hand"], "is_wish_plan": ["reader", "wish", "hand", "value"],
    "is_stand_in_plan": ["reader", "wish", "hand", "value"],
    "is_all_let": ["reader", "wish"], "let_paper": ["reader", "wish"], "is_let_paper": ["reader", "wish", "value"],
    "barred_play": ["reader", "wish"], "spoil_paper": ["reader", "wish"],
    "is_spoil_paper": ["reader", "wish", "value"],
    "is_failing": ["reader", "wish"], "failing_paper": ["reader", "wish"],
    "is_failing_paper": ["reader", "wish", "value"], "foe_wish": ["reader", "foe"], "failing_wish": ["reader"],
    "follows": ["reader", "other"], "following_paper": ["reader", "other"], "leaving_paper": ["reader", "other"],
    "is_following_paper": ["reader", "other", "value"], "is_leaving_paper": ["reader", "other", "value"],
    "followed_run": ["reader", "other", "paper", "run"],
    "both_of": ["reader", "other"], "either_of": ["reader", "other"],
    "is_cutting": ["reader", "value"], "cutting": ["reader", "numbers"], "first_cutting": ["reader"],
    "is_one_memory": ["reader"],
    "is_of_sort": ["sort", "value"], "written": ["sort", "value"], "read": ["sort", "text"],
    "words": [], "is_claim": ["value"], "contrary": ["claim"], "is_true": ["claim"], "paper_of": ["claim"],
    "is_paper_of": ["claim", "value"],
    "is_name": ["value"], "is_command": ["value"], "is_deed": ["value"],
    "Desk": [], "Trial": ["desk"], "tried": ["desk", "action"], "claim_of": ["label"], "do": ["command"],
    "do_all": ["commands"], "attempt": ["commands"], "attach": ["label", "paper"], "fits": ["label"], "lines": [],
    "copy": [], "again": ["lines"],
}


def deep(depth):
    """A value that is nested so deep."""
    value = 0
    for at in range(depth):
        value = (value,) if at % 2 else [value]
    return value


def junk():
    """Values of every kind, new ones each time; some of them are valid somewhere."""
    return [
        None, True, False, -1, -7, 10 ** 29, -(10 ** 29), "", "0", "1", "clean", "let", "letters 1\n", b"", b"0",
        [], [0], [None], [True], [[]], [{}], [[0], [0]], (), (0,), ((),), ({},), ([],), (None, None),
        ([], []), ([0], [0]), ((0,), [0]), ([0], (0,)), ((False,), (False,)), ((), (True,)), ((), ("0",)),
        ((), ()), ((0,), ()), ((), (-1,)), ((), (4,)), ((), (0,), ()), ("let",), ("let", None), ("barred", [[]]),
        {}, {0: 0}, {"row": ((), (0,))}, set(), {0, 1}, range(2), object(), len, Reader, InvalidRow, InvalidRow(0),
        Reader(1, 1, [(0, 0, 0, 0)]), Board([0], [0], [[0]]), Wish(1, [0], [[(0, 0)]]), Desk(), deep(6), deep(15), [deep(9), deep(10)], (deep(4), deep(3)),
    ]


def changed(value):
    """Values with just one thing otherwise: a number, a kind, one left out, put in twice, or in another sequence."""
    if isinstance(value, (list, tuple)):
        kind = type(value)
        yield tuple(value) if kind is list else list(value)
        yield value + kind([0])
        for at, item in enumerate(value):
            yield value[:at] + value[at + 1:]
            yield value[:at + 1] + value[at:]
            if at > 0:
                yield value[:at - 1] + kind([item, value[at - 1]]) + value[at + 1:]
            for other in changed(item):
                yield value[:at] + kind([other]) + value[at + 1:]
    else:
        yield from [None, "0", [value], (value,)]
        if value is None:
            yield 0
        elif isinstance(value, int):
            yield from [value + 1, value - 1, -value, 10 ** 29]
            if value in (0, 1):
                yield bool(value)


def kinds(value):
    """The kinds of the value and of all inside it."""
    if isinstance(value, (list, tuple)):
        return (type(value).__name__, [kinds(item) for item in value])
    return type(value).__name__


class PromiseCase(unittest.TestCase):
    """A test case that asks by position, by name and again."""

    def exactly(self, told, expected):
        self.assertEqual(told, expected)
        self.assertEqual(kinds(told), kinds(expected))

    def same_value(self, told, passed):
        if told is not passed:
            self.exactly(told, passed)

    def by_both(self, function, arguments):
        """Two calls, one with all by position, one with all by name."""
        names = PARAMETERS[function.__name__]
        self.assertEqual(len(names), len(arguments))
        turned = list(zip(names, arguments))[::-1]
        return [lambda: function(*arguments), lambda: function(**dict(turned))]

    def ask(self, function, *arguments, exact=True):
        """What is told: alike each time and however it is asked, if it is exact; no argument is changed."""
        kept = copy.deepcopy(arguments)
        by_position, by_name = self.by_both(function, arguments)
        told = by_position()
        for call in (by_name, by_position):
            again = call()
            if exact:
                self.assertEqual(again, told)
                self.assertEqual(kinds(again), kinds(told))
            if isinstance(told, list):
                self.assertIsNot(again, told)
        self.assertEqual(arguments, kept)
        self.assertEqual(kinds(arguments), kinds(kept))
        return told

    def gives(self, expected, function, *arguments):
        """What is told is just this."""
        self.exactly(self.ask(function, *arguments), expected)

    def refuses(self, error, value, function, *arguments):
        """Just this error is raised, with the value; by position and by name."""
        for call in self.by_both(function, arguments):
            with self.assertRaises(error) as caught:
                call()
            self.assertIs(type(caught.exception), error)
            self.same_value(caught.exception.value, value)

    def refuses_junk(self, error, function, *arguments, at, fine=()):
        """All values that are never valid there are refused at this parameter, whatever comes behind it."""
        allowed = [(value, kinds(value)) for value in fine]
        for value in junk():
            if (value, kinds(value)) in allowed:
                continue
            passed = list(arguments)
            passed[at] = value
            with self.subTest(function=function.__name__, value=value):
                self.refuses(error, value, function, *passed)

    def told_by(self, error, told, function, *arguments):
        """Just this error is raised, which tells this by its attributes; by position and by name."""
        for call in self.by_both(function, arguments):
            with self.assertRaises(error) as caught:
                call()
            self.assertIs(type(caught.exception), error)
            self.exactly({name: getattr(caught.exception, name) for name in told}, told)

    def too_many(self, what, limit, function, *arguments):
        """TooMany is raised, of what and with this limit."""
        self.told_by(TooMany, {"what": what, "limit": limit}, function, *arguments)

    def unlike_letters(self, function, *arguments):
        self.told_by(UnlikeLetters, {}, function, *arguments)

    def no_move(self, place, function, *arguments):
        """NoMove is raised, of this place."""
        self.told_by(NoMove, {"place": place}, function, *arguments)


# A row is let by if from some place on it has one letter alone.
LAST_WAYS = [(0, 0, 0, 0), (0, 0, 1, 1), (0, 1, 0, 1), (0, 1, 1, 1), (1, 0, 0, 1), (1, 0, 1, 1), (1, 1, 0, 1),
             (1, 1, 1, 0)]

# Readers with just 400, and with just 401 standings that come.
WAYS_400 = [
    (0, 0, 2, 0), (0, 1, 3, 0), (0, 1, 4, 0), (1, 0, 6, 0), (1, 1, 2, 0), (2, 0, 0, 0), (2, 0, 3, 1), (2, 1, 4, 0),
    (3, 0, 4, 0), (3, 1, 7, 1), (4, 0, 5, 1), (4, 1, 0, 0), (4, 1, 4, 0), (5, 0, 4, 1), (5, 0, 7, 0), (5, 1, 1, 0),
    (6, 0, 3, 0), (6, 1, 0, 0), (7, 0, 1, 0), (7, 1, 5, 1)]
WAYS_401 = [
    (0, 0, 2, 0), (0, 0, 3, 1), (0, 0, 5, 0), (0, 1, 6, 0), (0, 2, 1, 0), (0, 2, 3, 0), (1, 0, 0, 0), (1, 0, 1, 0),
    (1, 0, 4, 1), (1, 1, 2, 0), (1, 2, 0, 0), (2, 0, 4, 0), (2, 1, 3, 1), (2, 2, 5, 0), (3, 0, 1, 1), (3, 1, 5, 0),
    (3, 2, 1, 0), (4, 0, 0, 1), (4, 1, 4, 0), (4, 2, 6, 0), (5, 0, 2, 0), (5, 1, 1, 0), (5, 2, 2, 0), (6, 0, 0, 1),
    (6, 0, 5, 1), (6, 1, 1, 0), (6, 2, 2, 0)]


def last_reader():
    return Reader(2, 2, LAST_WAYS)


def slip_reader(letters=1):
    """One room, and nothing but slips."""
    return Reader(letters, 1, [(0, letter, 0, 1) for letter in range(letters)])


def clean_reader(letters=1):
    """One room, and nothing but clean ways."""
    return Reader(letters, 1, [(0, letter, 0, 0) for letter in range(letters)])


def step_reader(slips):
    """Twelve rooms: by 0 all stay, by 1 all go on to the next one, round; so many of these steps slip."""
    ways = [(room, 0, room, 0) for room in range(12)]
    ways += [(room, 1, (room + 1) % 12, 1 if room < slips else 0) for room in range(12)]
    return Reader(2, 12, ways)


def far_reader():
    """Twelve rooms, from each of which ways lead to few others, low ones and high ones."""
    ways = []
    for room in range(12):
        ways += [(room, 0, (room + 8) % 12, 0), (room, 0, (room + 1) % 12, 1), (room, 1, (5 * room + 9) % 12, 1)]
        ways += [(room, 1, room // 2, 0), (room, 2, room, room % 2), (room, 2, 11 - room, 0)]
    return Reader(3, 12, ways)


def full_reader():
    """As many letters, rooms and ways as there can be."""
    ways = []
    for room in range(12):
        for letter in range(4):
            ways.append((room, letter, (room + letter) % 12, 1))
            ways.append((room, letter, (room + letter + 1 + room * letter % 11) % 12, room % 2))
    assert len(set(ways)) == 96
    return Reader(4, 12, ways)


def some_ways(source, letters, rooms, slippy):
    """Ways of some reader; the greater slippy, the more slips."""
    ways = set()
    for room in range(rooms):
        for letter in range(letters):
            for _ in range(source.choice([1, 1, 2, 3])):
                slip = 1 if source.randrange(4) < slippy else 0
                ways.add((room, letter, source.randrange(rooms), slip))
    return sorted(ways)


def some_readers(many, seed=1):
    """So many readers of all sorts, the same each time."""
    source = random.Random(seed)
    readers = [last_reader(), slip_reader(2), clean_reader(3), Reader(1, 3, [(0, 0, 1, 0), (1, 0, 2, 0), (2, 0, 0, 0)])]
    while len(readers) < many:
        letters, rooms = source.randint(1, 4), source.randint(1, 5)
        readers.append(Reader(letters, rooms, some_ways(source, letters, rooms, source.randrange(1, 5))))
    return readers


def round_reader(rooms, slips=()):
    """One letter, by which one goes on to the next room, round; the ways from these rooms slip."""
    return Reader(1, rooms, [(room, 0, (room + 1) % rooms, 1 if room in slips else 0) for room in range(rooms)])


def some_row(source, letters, begin=4, again=5):
    return (tuple(source.randrange(letters) for _ in range(source.randint(0, begin))),
            tuple(source.randrange(letters) for _ in range(source.randint(1, again))))


def some_rows(letters, many, seed=1):
    """So many rows of these letters, the same each time; not all of them are normal."""
    source = random.Random(seed)
    return [some_row(source, letters) for _ in range(many)]


def told_otherwise(row):
    """The same row, told in other ways."""
    begin, again = row
    return [(begin, again + again), (begin + again, again), (begin + again[:1], again[1:] + again[:1]),
            (begin + again + again[:1], (again[1:] + again[:1]) * 3)]


def letters_of(row, many):
    """So many first letters of the row, by going round."""
    begin, again = row
    letters = list(begin)
    while len(letters) < many:
        letters.extend(again)
    return letters[:many]
