"""Texts of readers, and the wrong lines of all other strings."""

import re

from tests.tools import PromiseCase, full_reader, junk, last_reader, some_readers
from tworivals.errors import BadText, InvalidReader
from tworivals.readers import Reader
from tworivals.texts import reader_of, reader_text

NUMBER = "(0|[1-9][0-9]*)"
WAY = re.compile(f"way {NUMBER} {NUMBER} {NUMBER} (clean|slip)")


def is_wrong_way(letters, rooms, ways, line):
    """Whether this line can't stand there; if it can, its way is put behind the others."""
    found = WAY.fullmatch(line)
    if not found or max(map(len, found.groups()[:3])) > 2 or len(ways) == 96:
        return True
    way = tuple(int(word) for word in found.groups()[:3]) + (("clean", "slip").index(found.group(4)),)
    if way[0] >= rooms or way[1] >= letters or way[2] >= rooms or (ways and way <= ways[-1]):
        return True
    ways.append(way)
    return False


def wrong_line(text):
    """The wrong line by its three cases, None for a reader's text."""
    lines = text.split("\n")
    rest = lines.pop()
    if rest:
        lines.append(rest)
    ways, letters, rooms = [], 0, 0
    for at, line in enumerate(lines):
        if at == 0:
            if line not in ("letters 1", "letters 2", "letters 3", "letters 4"):
                return at
            letters = int(line[-1])
        elif at == 1:
            if not re.fullmatch("rooms ([1-9]|1[012])", line):
                return at
            rooms = int(line[6:])
        elif is_wrong_way(letters, rooms, ways, line):
            return at
    if len(lines) < 2 or len({way[:2] for way in ways}) < letters * rooms:
        return len(lines)
    return len(lines) - 1 if rest else None


class TextCase(PromiseCase):
    """A test case that knows the wrong line of every string."""

    def reads(self, text):
        """The text is read, or its wrong line is told, as the three cases say."""
        line = wrong_line(text)
        with self.subTest(text=text[:200]):
            if line is None:
                self.assertEqual(reader_text(self.ask(reader_of, text)), text)
            else:
                self.bad(line, text)

    def bad(self, line, text):
        for call in self.by_both(reader_of, (text,)):
            with self.assertRaises(BadText) as caught:
                call()
            self.assertIs(type(caught.exception), BadText)
            self.exactly(caught.exception.line, line)


class TestTexts(TextCase):

    def test_texts(self):
        self.gives("letters 2\nrooms 1\nway 0 0 0 clean\nway 0 1 0 slip\n", reader_text,
                   Reader(2, 1, [(0, 1, 0, 1), (0, 0, 0, 0)]))
        self.gives("letters 1\nrooms 12\n" + "".join(f"way {room} 0 {11 - room} slip\n" for room in range(12)),
                   reader_text, Reader(1, 12, [(room, 0, 11 - room, 1) for room in range(12)]))
        self.gives("letters 1\nrooms 1\nway 0 0 0 clean\nway 0 0 0 slip\n", reader_text,
                   Reader(1, 1, [(0, 0, 0, 1), (0, 0, 0, 0)]))

    def test_there_and_back(self):
        for reader in some_readers(60) + [full_reader()]:
            text = self.ask(reader_text, reader)
            told = self.ask(reader_of, text)
            self.assertIsInstance(told, Reader)
            self.assertEqual(told, reader)
            self.exactly(told.ways(), reader.ways())

    def test_no_string(self):
        for value in junk():
            if not isinstance(value, str):
                self.bad(None, value)
        self.bad(None, reader_text(last_reader()).encode())

    def test_wrong_reader(self):
        self.refuses_junk(InvalidReader, reader_text, None, at=0, fine=[Reader(1, 1, [(0, 0, 0, 0)])])


class TestWrongLines(TextCase):

    def setUp(self):
        self.texts = [reader_text(reader) for reader in some_readers(9)[:7]]
        self.text = reader_text(last_reader())

    def test_missing_lines(self):
        self.bad(0, "")
        self.bad(1, "letters 2\n")
        self.bad(1, "letters 2")
        self.bad(2, "letters 2\nrooms 2\n")
        self.bad(2, "letters 2\nrooms 2")
        self.bad(0, "\n")
        self.bad(0, "rooms 2\nletters 2\n")
        self.bad(0, "\nletters 2\nrooms 2\n")
        self.bad(1, "letters 2\n\nrooms 2\n")
        self.bad(3, "letters 2\nrooms 1\nway 0 1 0 slip\n")
        self.bad(3, "letters 2\nrooms 1\nway 0 0 0 slip")
        self.bad(4, "letters 1\nrooms 3\nway 0 0 0 slip\nway 2 0 0 slip\n")

    def test_no_line_feed_at_the_end(self):
        self.bad(9, self.text[:-1])
        self.bad(10, self.text + "\n")
        self.bad(10, self.text + " ")
        self.bad(10, self.text + "way")
        self.bad(10, self.text + "way 1 1 1 slip")
        self.bad(11, self.text.replace("way 1 1 1 clean\n", "way 1 1 1 clean\nway 1 1 1 slip\nway 1 1 1 slip"))
        self.bad(10, self.text.replace("way 1 1 1 clean\n", "way 1 1 1 clean\nway 1 1 1 slip"))
        self.assertEqual(reader_of(self.text + "way 1 1 1 slip\n").many, 9)

    def test_the_first_case_comes_first(self):
        # The wrong line far down is told ahead of a lacking way, this ahead of the lacking line feed.
        self.bad(4, "letters 2\nrooms 2\nway 0 0 0 slip\nway 1 1 0 slip\nway 1 1 0 slip\n")
        self.bad(4, "letters 2\nrooms 2\nway 0 0 0 slip\nway 1 1 0 slip")
        self.bad(4, "letters 2\nrooms 2\nway 0 0 0 slip\nway 1 1 0 slip\n?")

    def test_numbers(self):
        for word in ("0", "5", "01", "+1", "-1", "1.0", "1 ", " 1", "", "one", "1_0", "9" * 4400, "1" * 15000,
                     "0" * 5000 + "1", "10", "00"):
            self.bad(0, f"letters {word}\nrooms 1\nway 0 0 0 clean\n")
        for word in ("0", "13", "01", "+1", "-1", "012", "1 ", " 1", "", "9" * 4400, "0" * 5000 + "1", "00"):
            self.bad(1, f"letters 1\nrooms {word}\nway 0 0 0 clean\n")
        for word in ("1", "00", "+0", "-0", "", "9" * 4400, "0" * 5000):
            for line in (f"way {word} 0 0 clean", f"way 0 {word} 0 clean", f"way 0 0 {word} clean"):
                self.bad(2, f"letters 1\nrooms 1\n{line}\n")

    def test_bounds(self):
        self.assertEqual(reader_of("letters 1\nrooms 2\nway 0 0 1 clean\nway 1 0 1 slip\n").rooms, 2)
        self.bad(3, "letters 1\nrooms 2\nway 0 0 1 clean\nway 2 0 1 slip\n")
        self.bad(3, "letters 1\nrooms 2\nway 0 0 1 clean\nway 1 1 1 slip\n")
        self.bad(3, "letters 1\nrooms 2\nway 0 0 1 clean\nway 1 0 2 slip\n")

    def test_words(self):
        for line in ("Letters 2", "letter 2", "letters  2", "letters 2 ", " letters 2", "letters", "letters 2 2",
                     "letters2", "letters\t2", "rooms 2", "way 0 0 0 clean"):
            self.bad(0, self.text.replace("letters 2", line))
        for line in ("Rooms 2", "room 2", "rooms  2", "rooms 2 ", " rooms 2", "rooms", "rooms 2 2", "letters 2"):
            self.bad(1, self.text.replace("rooms 2", line))
        for line in ("Way 0 0 0 clean", "ways 0 0 0 clean", "way 0 0 0 Clean", "way 0 0 0 0", "way 0 0 0", "way 0 0 clean",
                     "way 0 0 0 0 clean", "way  0 0 0 clean", "way 0 0 0 clean ", " way 0 0 0 clean", "way", "",
                     "way 0 0 0 slips", "way 0 0 0 slip clean", "way 0, 0, 0 clean"):
            self.bad(2, self.text.replace("way 0 0 0 clean", line))

    def test_sequence(self):
        self.bad(3, "letters 2\nrooms 1\nway 0 1 0 slip\nway 0 0 0 clean\n")
        self.bad(3, "letters 1\nrooms 1\nway 0 0 0 slip\nway 0 0 0 clean\n")
        self.bad(3, "letters 1\nrooms 1\nway 0 0 0 slip\nway 0 0 0 slip\n")
        self.assertEqual(reader_of("letters 1\nrooms 1\nway 0 0 0 clean\nway 0 0 0 slip\n").many, 2)

    def test_rooms_are_sorted_as_numbers(self):
        ways = "".join(f"way {room} 0 0 slip\n" for room in range(12))
        self.assertEqual(reader_of("letters 1\nrooms 12\n" + ways).rooms, 12)
        ways = "".join(f"way {room} 0 0 slip\n" for room in sorted(range(12), key=str))
        self.bad(6, "letters 1\nrooms 12\n" + ways)

    def test_a_97th_way(self):
        ways = {(room, letter, 0, 1) for room in range(12) for letter in range(4)}
        ways |= {(0, letter, to, slip) for letter in range(2) for to in range(12) for slip in range(2)}
        ways |= {(11, 3, 1, 1), (11, 3, 2, 1)}
        text = reader_text(Reader(4, 12, list(ways)))
        self.assertEqual((text.count("\n"), text[-16:]), (98, "way 11 3 2 slip\n"))
        self.assertEqual(reader_of(text).many, 96)
        self.bad(97, text[:-1])
        self.bad(98, text + "way 11 3 3 slip\n")
        self.bad(98, text + "way 11 3 3 slip")
        self.bad(98, text + "way 11 3 3 slip\nway 11 3 4 slip\nway 12 3 4 slip\n")
        self.bad(98, text + "way 11 3 2 slip\n")
        # The line that is put in may stand; the last one is the 97th then.
        put_in = text.replace("way 1 0 0 slip\n", "way 1 0 0 clean\nway 1 0 0 slip\n")
        self.bad(98, put_in)
        self.assertEqual(reader_of(put_in[:-16]).many, 96)
        # A way is lacking, but the 97th one comes first.
        self.bad(98, put_in.replace("way 5 3 0 slip\n", "").replace("way 4 0 0 slip\n", "way 4 0 0 clean\nway 4 0 0 slip\n"))

    def test_lines_left_out_put_in_twice_elsewhere(self):
        for text in self.texts:
            lines = text.split("\n")[:-1]
            for at, line in enumerate(lines):
                rest = lines[:at] + lines[at + 1:]
                self.reads("".join(f"{other}\n" for other in rest))
                for place in range(len(lines)):
                    self.reads("".join(f"{other}\n" for other in rest[:place] + [line] + rest[place:]))
                    self.reads("".join(f"{other}\n" for other in lines[:place] + [line] + lines[place:]))

    def test_begins_of_texts(self):
        for text in self.texts:
            for end in range(len(text) + 1):
                self.reads(text[:end])

    def test_signs_put_in_taken_away_changed(self):
        for text in self.texts[:4] + [self.text]:
            for at in range(len(text) + 1):
                self.reads(text[:at] + text[at + 1:])
                for sign in "01 9\n+-aws":
                    self.reads(text[:at] + sign + text[at:])
                    self.reads(text[:at] + sign + text[at + 1:])
