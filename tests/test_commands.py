"""Names, and which strings are commands and deeds by their words alone."""

import random

from tests.desk_model import DEED_LINES, PATTERNS, QUESTION_LINES, taken
from tests.tools import PromiseCase, full_reader, junk, some_readers
from tworivals.commands import is_command, is_deed, is_name
from tworivals.texts import reader_text

NEAR = "letters 2; rooms 1; way 0 0 0 clean; way 0 1 0 slip"
LONG = ",".join(["0"] * 96)
# Of each kind of part some that are right and some that are wrong.
PARTS = {
    "NAME": (["a", "p", "z9", "abcdefgh", "a1234567", "undo", "letters", "clean"],
             ["", "A", "9a", "abcdefghi", "a_b", "a-b", "aB", "-", "a\n", "a.", "1"]),
    "COUNT": (["0", "1", "7", "10", "999999", "100000"],
              ["", "00", "01", "-1", "+1", "1000000", "0000001", "1.0", "a", "1_0", "0x1", "1,2", "-", "1\n", " 1"]),
    "LIST": (["0", "1,2", "2,1", "0,0,0", "999999,0", LONG],
             ["", "-", ",", "0,", ",0", "0,,1", "0, 1", "00", "0,01", "1000000", LONG + ",0", "[0]", "0;1", "a"]),
    "ROW": (["-/0", "0/0", "0,1/2,3", "-/" + ",".join("0" * 40), ",".join("3" * 40) + "/1"],
            ["", "-", "0", "/", "-/", "/0", "0/-", "-/-", "-/4", "4/0", "0/0/0", "-/0,", "0,-/0", "0//0", "-/00", "-0/1", "0/1 ",
             "-/" + ",".join("0" * 41), ",".join("0" * 41) + "/0", "--/0", "-,0/0", "-/10"]),
    "KIND": (["clean", "slip"], ["", "0", "1", "Clean", "slips", "cleanslip", "clean,slip"]),
    "LINES": ([NEAR, "letters 1; rooms 1; way 0 0 0 slip"],
              ["", "letters 2", NEAR + ";", NEAR + "; ", NEAR.replace("; ", ";"), NEAR.replace("; ", "\n"), NEAR + "\n",
               NEAR.replace("; rooms", "\nrooms"), NEAR.replace("; ", ";  "), "; " + NEAR, NEAR.replace("clean", "slip", 0) + " ",
               NEAR.replace("way 0 1 0 slip", "way 0 1 1 slip"), NEAR.replace("; way 0 1 0 slip", ""),
               "letters 2; rooms 1; way 0 1 0 slip; way 0 0 0 clean", "letters 5; rooms 1; way 0 0 0 clean",
               NEAR.replace("rooms 1", "rooms 01"), NEAR.replace(" 0 1 0", "  0 1 0")]),
}
NAMED = ("NEW", "LABEL", "FREE", "name", "reader", "row", "other")


def fine_command(line, source=None):
    """A command by this line of the table, with right parts."""
    words = []
    for word in line.split(" "):
        right = PARTS["NAME" if word in NAMED else word][0] if word in PATTERNS and words else [word]
        words.append(source.choice(right) if source else right[0])
    return " ".join(words)


class TestNames(PromiseCase):

    def test_names(self):
        right, wrong = PARTS["NAME"]
        for value in right:
            self.gives(True, is_name, value)
        for value in wrong + ["aaaaaaaaa", "a" * 20000, " a", "a ", "a b", "_", "a\na"]:
            self.gives(False, is_name, value)
        for sign in map(chr, range(32, 127)):
            self.gives(sign in "abcdefghijklmnopqrstuvwxyz", is_name, sign)
            self.gives(sign in "abcdefghijklmnopqrstuvwxyz0123456789", is_name, "q" + sign)

    def test_any_value(self):
        for value in junk():
            if not isinstance(value, str):
                for function in (is_name, is_command, is_deed):
                    self.assertIs(function(value), False)
                    self.assertIs(function(value=value), False)


class TestCommands(PromiseCase):

    def checked(self, value):
        told = taken(value)
        self.gives(told is not None, is_command, value)
        self.gives(told is not None and told[0] in DEED_LINES, is_deed, value)
        return told is not None

    def test_examples(self):
        for value, fits in (("row r -/0,1", True), ("row r 0,1/-", False), ("row r 4/0", False), ("lay p 0 1 0 clean", True),
                            ("lay p 0 1 0 0", False), ("letters r 4", True), ("claim k let p r", True), ("claim k let p", False)):
            self.gives(fits, is_command, value)
        self.gives(False, is_deed, "letters r 4")
        self.gives(True, is_deed, "claim k let p r")

    def test_each_line(self):
        for line in DEED_LINES + QUESTION_LINES:
            command = fine_command(line)
            self.gives(True, is_command, command)
            self.gives(line in DEED_LINES, is_deed, command)
            for other in (command + " ", " " + command, command + " a", command + "\n", command.upper(), command[:-1] + "\x21",
                          command.replace(" ", "  ", 1) + ("" if " " in command else "x"), command.split(" ")[0] + "s",
                          " ".join(command.split(" ")[:-1])):
                self.checked(other)

    def test_each_part(self):
        found = {True: 0, False: 0}
        for line in DEED_LINES + QUESTION_LINES:
            words = line.split(" ")
            for at in range(1, len(words)):
                if words[at] not in PATTERNS:
                    for other in ("", "x", "won", "lost", words[at] + "s", words[at].upper()):
                        self.assertFalse(self.checked(" ".join([*fine_command(line).split(" ")[:at], other,
                                                                *fine_command(line).split(" ")[at + 1:]])))
                    continue
                right, wrong = PARTS["NAME" if words[at] in NAMED else words[at]]
                for part, fits in [(part, True) for part in right] + [(part, False) for part in wrong]:
                    # Of what is right but for this part.
                    told = [fine_command(words[0])] + [fine_command("x " + word)[2:] for word in words[1:]]
                    told[at] = part
                    self.assertEqual(self.checked(" ".join(told)), fits, told)
                    found[fits] += 1
        self.assertGreater(min(found.values()), 150)

    def test_texts_of_readers(self):
        for reader in some_readers(30, 91) + [full_reader()]:
            lines = reader_text(reader)[:-1].replace("\n", "; ")
            self.assertTrue(self.checked("reader p " + lines))
            source = random.Random(reader.many)
            for _ in range(20):
                at = source.randrange(len(lines))
                self.checked("reader p " + lines[:at] + source.choice("01 ;\nx") + lines[at + 1:])
                self.checked("reader p " + lines[:at] + lines[at + 1:])

    def test_at_random(self):
        source = random.Random(92)
        signs = "abz09 ,/-;\n"
        for _ in range(4000):
            command = fine_command(source.choice(DEED_LINES + QUESTION_LINES), source)
            at = source.randrange(len(command) + 1)
            self.checked(source.choice([command[:at] + source.choice(signs) + command[at:],
                                        command[:at] + source.choice(signs) + command[at + 1:], command[:at] + command[at + 1:]]))

    def test_no_commands(self):
        for value in ("", " ", "\n", "undo ", "redo 1", "states p", "names\n", "claim", "claim k", "claim k won p 0", "claim k let",
                      "claim let p r", "reader", "reader p", "reader p ", "row", "do", "desk", "quit", "drop", "drop p q", "Names",
                      "copy q", "undo undo", "names names", "claim k chooser p r", "claim k ahead p", "claim k ahead p q",
                      "forget", "forget k l", "reader  " + NEAR, "reader p  " + NEAR):
            self.assertFalse(self.checked(value), value)
