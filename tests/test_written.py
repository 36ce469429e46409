"""Things written and read, sorts, and unread positions."""

import random
import re

from tests import board_oracles
from tests.tools import PromiseCase, clean_reader, full_reader, junk, last_reader, some_readers, some_rows
from tworivals.boards import Board
from tworivals.errors import InvalidSort, InvalidThing, UnreadText
from tworivals.readers import Reader
from tworivals.written import is_of_sort, read, written

SORTS = ("reader", "board", "row", "run", "heights")
NINES = 10 ** 30 - 1


def plain(value):
    """The value written, by the words alone."""
    if isinstance(value, Reader):
        return plain((value.letters, value.rooms, value.ways()))
    if isinstance(value, Board):
        return plain((value.owners(), value.ranks(), value.moves()))
    if isinstance(value, (list, tuple)):
        return ("[", "(")[type(value) is tuple] + " ".join(map(plain, value)) + ("]", ")")[type(value) is tuple]
    return str(value)


def is_written(text):
    """Whether the string is some written thing: what is within brackets is put together until one thing is left."""
    if not re.fullmatch(r"[0-9\[\]() ]*", text):
        return False
    text = re.sub(r"(?<![0-9])(0|[1-9][0-9]*)(?![0-9])", "T", text)
    while True:
        shorter = re.sub(r"\[(T( T)*)?\]|\((T( T)*)?\)", "T", text)
        if shorter == text:
            return text == "T"
        text = shorter


def may_go_on(text):
    """Whether some written thing begins with the string."""
    closing = []
    for sign in text:
        if sign in "[(":
            closing.append("])"["[(".index(sign)])
        elif sign in "])" and closing:
            closing.pop()
    return any(is_written(text + more + "".join(closing[::-1])) for more in ("", "0"))


def unread(text):
    """The unread position of what is no written thing, None of any that is one."""
    if is_written(text):
        return None
    for at in range(len(text)):
        if not may_go_on(text[:at + 1]):
            return at
    return len(text)


def things():
    """Of each sort some things."""
    source = random.Random(71)
    yield from [("reader", reader) for reader in some_readers(20, 72) + [full_reader()]]
    yield from [("board", board) for board in board_oracles.some_boards(20, 73)]
    yield from [("row", row) for row in some_rows(4, 20, 74)]
    for _ in range(20):
        yield "run", ([source.randrange(200) for _ in range(source.randrange(4))],
                      [source.randrange(200) for _ in range(source.randint(1, 4))])
        yield "heights", [tuple(source.randrange(30) for _ in range(3)) for _ in range(source.randrange(4))]
    yield from [("row", (((0,) * 40), (3,) * 40)), ("run", ([0] * 520, [NINES] * 80)), ("run", ([], [0])), ("heights", []),
                ("run", ([7] * 3, [7] * 480)), ("heights", [(NINES, 0, NINES)]), ("heights", [(0, 0, 0)] * 600)]


class TestSorts(PromiseCase):

    def by_words(self, sort, value):
        """Whether the value is of the sort."""
        if sort in ("reader", "board"):
            return type(value) is {"reader": Reader, "board": Board}[sort]
        lists = (list, tuple)

        def counts(told, below=10 ** 30):
            return all(type(item) is int and 0 <= item < below for item in told)
        if sort == "heights":
            return type(value) in lists and len(value) <= 600 and all(
                type(item) is tuple and len(item) == 3 and counts(item) for item in value)
        if type(value) is not tuple or len(value) != 2:
            return False
        if sort == "row":
            return all(type(part) is tuple and len(part) <= 40 and counts(part, 4) for part in value) and value[1] != ()
        return all(type(part) in lists and counts(part) for part in value) and len(value[0]) <= 520 \
            and 1 <= len(value[1]) <= 480

    def test_of_each_sort(self):
        for sort, thing in things():
            for other in SORTS:
                self.gives(self.by_words(other, thing), is_of_sort, other, thing)
            self.assertIs(is_of_sort(sort, thing), True)

    def test_at_the_bounds(self):
        for value, fits in ((([0] * 520, [0]), True), (([0] * 521, [0]), False), (([], [0] * 480), True),
                            (([], [0] * 481), False), (([], []), False), (((), (0,)), True), (([NINES], [0]), True),
                            (([10 ** 30], [0]), False), (([], [10 ** 30]), False), (([True], [0]), False),
                            (([], [False]), False), (([-1], [0]), False), ([[], [0]], False), (([], [0], []), False)):
            self.gives(fits, is_of_sort, "run", value)
        for value, fits in (([(0, 0, 0)] * 600, True), ([(0, 0, 0)] * 601, False), ([], True), ((), True), ([[0, 0, 0]], False),
                            (((0, 0, 0),), True), ([(0, 0)], False), ([(0, 0, 10 ** 30)], False), ([(NINES, NINES, NINES)], True),
                            ([(0, 0, True)], False), ([(0, 0, -1)], False), ([(0, 0, 0, 0)], False), ({}, False)):
            self.gives(fits, is_of_sort, "heights", value)
        for value, fits in ((((), (3,)), True), (((), (4,)), False), (((0,) * 41, (0,)), False), (((0,) * 40, (0,) * 40), True),
                            (((), ()), False), (([], (0,)), False)):
            self.gives(fits, is_of_sort, "row", value)

    def test_any_value(self):
        for value in junk():
            for told in (value, [value], (value, [0]), ([value], [0]), ([], [value]), [(value, 0, 0)], (value, (0,))):
                for sort in SORTS:
                    self.assertIs(is_of_sort(sort, told), self.by_words(sort, told), told)

    def test_wrong(self):
        for function in (is_of_sort, written, read):
            self.refuses_junk(InvalidSort, function, None, None, at=0)
            for sort in ("", "readers", "Reader", "row ", "wish", "claim", b"row", ("row",)):
                self.refuses(InvalidSort, sort, function, sort, None)


class TestWritten(PromiseCase):

    def test_examples(self):
        self.gives("(1 1 [(0 0 0 1)])", written, "reader", Reader(1, 1, [(0, 0, 0, 1)]))
        self.gives("([0 1] [1 2] [[0 1] [0]])", written, "board", Board([0, 1], [1, 2], [[0, 1], [0]]))
        self.gives("((0 1) (2))", written, "row", ((0, 1), (2,)))
        self.gives("(() (2))", written, "row", ((), (2,)))
        self.gives("([] [0 10])", written, "run", ([], [0, 10]))
        self.gives("([] [0 10])", written, "run", ((), (0, 10)))
        self.gives("[(0 0 3) (1 20 0)]", written, "heights", [(0, 0, 3), (1, 20, 0)])
        self.gives("[(0 0 3)]", written, "heights", ((0, 0, 3),))
        self.gives("[]", written, "heights", ())
        self.gives(f"([{NINES}] [0])", written, "run", ([NINES], (0,)))

    def test_each_and_back(self):
        for sort, thing in things():
            text = plain(thing)
            if len(text) > 20000:
                self.too_many("signs", 20000, written, sort, thing)
                continue
            self.gives(text, written, sort, thing)
            told = self.ask(read, sort, text)
            self.assertEqual(told, thing)
            self.assertIs(type(told), type(thing))
            self.gives(text, written, sort, told)

    def test_ways_as_they_are_sorted(self):
        ways = last_reader().ways()
        self.gives(plain(last_reader()), written, "reader", Reader(2, 2, ways[::-1]))

    def test_20000_signs(self):
        # Numbers of thirty digits, and at last one of as many as lack, or two.
        for length, fits in ((19999, True), (20000, True), (20001, False), (20002, False)):
            head = [NINES] * 520
            whole, lacking = divmod(length - len(plain((head, []))), 31)
            loop = [NINES] * whole + [10 ** (lacking - 1)] if lacking else [NINES] * (whole - 1) + [10 ** 14] * 2
            self.assertEqual(len(plain((head, loop))), length)
            if fits:
                self.gives(plain((head, loop)), written, "run", (head, loop))
            else:
                self.too_many("signs", 20000, written, "run", (head, loop))
        many = Board([0] * 600, [0] * 600, [list(range(20))] * 600)
        self.too_many("signs", 20000, written, "board", many)

    def test_wrong(self):
        self.refuses_junk(InvalidThing, written, "row", None, at=1)
        self.refuses_junk(InvalidThing, written, "run", None, at=1, fine=[([0], [0]), ((0,), [0]), ([0], (0,)), ((), (4,))])
        self.refuses_junk(InvalidThing, written, "heights", None, at=1, fine=[[], ()])
        self.refuses_junk(InvalidThing, written, "reader", None, at=1, fine=[Reader(1, 1, [(0, 0, 0, 0)])])
        self.refuses_junk(InvalidThing, written, "board", None, at=1, fine=[Board([0], [0], [[0]])])
        for sort, thing in things():
            for other in SORTS:
                if not is_of_sort(other, thing):
                    self.refuses(InvalidThing, thing, written, other, thing)


class TestRead(PromiseCase):

    def unread(self, position, sort, text):
        self.told_by(UnreadText, {"position": position}, read, sort, text)

    def test_lists_as_lists(self):
        self.gives(([], [0, 0]), read, "run", "([] [0 0])")
        self.gives([(0, 0, 3)], read, "heights", "[(0 0 3)]")
        self.gives(((0, 1), (2,)), read, "row", "((0 1) (2))")
        self.gives(clean_reader(), read, "reader", "(1 1 [(0 0 0 0)])")
        self.gives(Board([0], [2], [[0]]), read, "board", "([0] [2] [[0]])")

    def test_positions(self):
        for text, position in (("", 0), (" ", 0), ("a", 0), ("0", None), ("00", 1), ("01", 1), ("10", None), ("0 ", 1), ("7 7", 1),
                               ("(", 1), (")", 0), ("]", 0), ("()", None), ("(]", 1), ("[)", 1), ("[]", None), ("[ ]", 1),
                               ("[0 ]", 3), ("[0  0]", 3), ("[0", 2), ("[0 ", 3), ("[0,0]", 2), ("[0] ", 3), ("[-1]", 1),
                               ("([] [])", None), ("([][])", 3), ("([] []", 6), ("(1 1 [(0 0 0 0)])", None), ("[00]", 2),
                               ("[0x]", 2), ("[None]", 1), ("\n", 0), ("[0]\n", 3), ("[0\n0]", 2), ("(0 01)", 4), ("+1", 0),
                               ("1_0", 1), ("[[[[]]]]", None), ("[[[[]]]", 7), ("((0) (0))", None), ("9" * 31, None)):
            self.assertEqual(unread(text), position, text)
            for sort in SORTS:
                if (sort, text) not in (("heights", "[]"), ("row", "((0) (0))"), ("reader", "(1 1 [(0 0 0 0)])")):
                    self.unread(position, sort, text)

    def test_written_but_of_no_such_sort(self):
        for sort, texts in (("reader", ["(1 1 [])", "(1 1 [(0 0 0 2)])", "(1 1 [(0 0 1 0)])", "(1 2 [(0 0 0 0)])", "(1 1)",
                                        "[1 1 [(0 0 0 0)]]", "(1 1 ((0 0 0 0)))", "(1 1 [[0 0 0 0]])", "(1 1 [(0 0 0 0)] 0)",
                                        "(1 1 [(0 0 0 1) (0 0 0 0)])", "(1 1 [(0 0 0 0) (0 0 0 0)])", "(5 1 [(0 0 0 0)])"]),
                            ("board", ["([0] [0] [[]])", "([2] [0] [[0]])", "([0] [3] [[0]])", "((0) [0] [[0]])", "([0] [0])",
                                       "([0] [0] [(0)])", "([0] [0] ([0]))", "[[0] [0] [[0]]]", "([0] [0] [[0 0]])", "([] [] [])"]),
                            ("row", ["(() ())", "([] [0])", "((0) (4))", "[() (0)]", "(() (0) ())", "(() (0 (0)))", "(() 0)"]),
                            ("run", ["([] [])", "(() (0))", "([] (0))", "(() [0])", "[[] [0]]", "([] [0] [])", "([()] [0])"]),
                            ("heights", ["()", "[(0 0)]", "[[0 0 0]]", "((0 0 0))", "[(0 0 (0))]", "[0]", "0"])):
            for text in texts:
                self.assertIsNone(unread(text))
                self.unread(None, sort, text)

    def test_many_digits(self):
        for digits in (30, 31, 300, 5000):
            number = "9" * digits
            for sort, text in (("run", f"([] [{number}])"), ("heights", f"[(0 {number} 0)]")):
                if digits == 30:
                    self.assertEqual(self.ask(read, sort, text), ([], [NINES]) if sort == "run" else [(0, NINES, 0)])
                else:
                    self.unread(None, sort, text)
            for sort in SORTS:
                self.unread(None, sort, number)
                self.unread(digits, sort, f"{number})")
                self.unread(1, sort, f"0{number}")
                self.unread(digits + 1, sort, f"[{number}")
                self.unread(None, sort, f"({number} 1 [(0 0 0 0)])")
        self.unread(None, "row", f"(() (1{'0' * 30}))")
        self.unread(None, "run", f"([] [{10 ** 30}])")

    def test_lengths(self):
        for text, fits in ((plain(([], [0] * 480)), True), (plain(([], [0] * 481)), False), (plain(([1] * 520, [0])), True),
                           (plain(([1] * 521, [0])), False)):
            if fits:
                self.assertEqual(plain(self.ask(read, "run", text)), text)
            else:
                self.unread(None, "run", text)
        self.assertEqual(len(self.ask(read, "heights", plain([(0, 0, 0)] * 600))), 600)
        self.unread(None, "heights", plain([(0, 0, 0)] * 601))

    def test_deep(self):
        for depth in (1, 16, 300, 9000):
            self.unread(None, "row", "[" * depth + "]" * depth)
            self.unread(2 * depth - 1, "row", "[" * depth + "]" * (depth - 1))
            self.unread(2 * depth, "run", "(" * depth + ")" * depth + ")")
            self.unread(2 * depth - 1, "run", "(" * depth + ")" * (depth - 1) + "]")

    def test_one_sign_otherwise(self):
        found = {}
        for sort, thing in list(things())[::4]:
            text = plain(thing)
            if len(text) > 60:
                continue
            others = [text[:at] + text[at + 1:] for at in range(len(text))] + [text[:at] for at in range(len(text))]
            for at in range(len(text) + 1):
                for sign in "019 ()[],-\nx":
                    others += [text[:at] + sign + text[at:], text[:at] + sign + text[at + 1:]]
            for other in others:
                position = unread(other)
                try:
                    told = read(sort, other)
                except UnreadText as error:
                    self.assertEqual(error.position, position, (sort, other))
                    found["unread" if position is not None else "of no sort"] = True
                else:
                    self.assertIsNone(position)
                    self.assertEqual(plain(told), other)
                    self.assertIs(is_of_sort(sort, told), True)
                    found["read"] = True
        self.assertEqual(len(found), 3)

    def test_at_random(self):
        source = random.Random(75)
        for _ in range(3000):
            text = "".join(source.choice("0017 ()[]") for _ in range(source.randint(0, 9)))
            with self.assertRaises(UnreadText) if text not in ("[]",) else self.subTest():
                read("heights", text)
            try:
                read("row", text)
            except UnreadText as error:
                self.assertEqual(error.position, unread(text), text)

    def test_wrong(self):
        for value in junk():
            if not isinstance(value, str):
                self.unread(None, "row", value)
        self.unread(0, "row", "let")
