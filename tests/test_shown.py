"""By what rows are shown, and the first rows that are let by, or aren't."""

from tests import oracles
from tests.tools import (PromiseCase, clean_reader, full_reader, junk, last_reader, slip_reader, some_readers, some_rows,
                         told_otherwise)
from tworivals.errors import InvalidMany, InvalidReader, InvalidRow
from tworivals.readers import Reader
from tworivals.rows import rows_to
from tworivals.shown import all_barred, all_let, first_barred, first_let, is_shown, shown

ONE = [Reader(1, 1, [(0, 0, 0, 0)])]
MOSTS = {1: 12, 2: 6, 3: 4, 4: 3}


def is_shown_by(reader, row, value):
    """Whether the value shows the row, by the definition."""
    if type(value) is not tuple or len(value) != 2 or type(value[0]) is not str:
        return False
    if value[0] == "let":
        return oracles.is_run_along(reader, row, value[1]) and not any(reader.way(at)[3] for at in value[1][1])
    return value[0] == "barred" and oracles.are_heights(reader, row, value[1])


class TestShown(PromiseCase):

    def test_by_one_of_both_words(self):
        words = []
        for reader in some_readers(80) + [full_reader()]:
            for row in some_rows(reader.letters, 4, reader.many):
                told = self.ask(shown, reader, row, exact=False)
                self.assertIs(type(told), tuple)
                word, paper = told
                self.exactly(word, "let" if oracles.is_let(reader, row) else "barred")
                self.assertIs(is_shown_by(reader, row, told), True)
                self.gives(True, is_shown, reader, row, told)
                parts = [type(part) for part in (paper if word == "let" else [paper])]
                self.assertEqual(parts, [list] * len(parts))
                other = "barred" if word == "let" else "let"
                for value in ((other, paper), [word, paper], (word,), (word, paper, 0), (word, None), (paper, word),
                              (word.encode(), paper), (word.upper(), paper), (word + " ", paper), paper, word,
                              (None, paper), ("", paper), (True, paper), (word, []), (other, []), (word, ([], [])),
                              (word, (paper,)), (word, told), (word, [paper])):
                    self.assertIs(is_shown(reader, row, value), False)
                words.append(word)
        self.assertGreater(min(words.count("let"), words.count("barred")), 50)

    def test_runs_along_the_row_with_clean_loops(self):
        last = last_reader()
        for row, run, fits in ((((), (0,)), ([], [0]), True), (((), (0,)), ([1], [5, 4]), False),
                               (((), (0,)), ([1, 4], [0]), True), (((), (0,)), ((1, 4), (0, 0)), True),
                               (((), (0,)), ([1], [5]), False), (((), (1,)), ([], [0]), False),
                               (((0,), (0,)), ([], [0]), False), (((0,), (1,)), ([1], [7]), True)):
            self.gives(fits, is_shown, last, row, ("let", run))

    def test_heights(self):
        for paper, fits in (([(0, 0, 1), (0, 1, 0), (1, 0, 0), (1, 1, 1)], True),
                            (((0, 0, 9), (0, 1, 3), (1, 0, 8), (1, 1, 4)), True), ([(0, 0, 1), (1, 0, 0)], False),
                            ([(0, 0, 0), (0, 1, 0), (1, 0, 0), (1, 1, 1)], False)):
            self.gives(fits, is_shown, last_reader(), ((), (0, 1)), ("barred", paper))

    def test_the_same_row_told_otherwise(self):
        for reader in some_readers(25):
            for row in some_rows(reader.letters, 3, reader.many):
                for other in told_otherwise(row):
                    self.assertEqual(shown(reader, other)[0], shown(reader, row)[0])
                    self.assertIs(is_shown(reader, other, shown(reader, other)), True)

    def test_any_value(self):
        for value in junk():
            self.assertIs(is_shown(clean_reader(), ((), (0,)), value), False)
            self.assertIs(is_shown(clean_reader(), ((), (0,)), ("let", value)),
                          is_shown_by(clean_reader(), ((), (0,)), ("let", value)))
            self.assertIs(is_shown(slip_reader(), ((), (0,)), ("let", value)), False)
            self.assertIs(is_shown(slip_reader(), ((), (0,)), ("barred", value)), False)
            self.assertIs(is_shown(clean_reader(), ((), (0,)), (value, ([], [0]))), value == "let")

    def test_wrong_parameters(self):
        self.refuses_junk(InvalidReader, shown, None, None, at=0, fine=ONE)
        self.refuses_junk(InvalidRow, shown, last_reader(), None, at=1)
        self.refuses_junk(InvalidReader, is_shown, None, None, None, at=0, fine=ONE)
        self.refuses_junk(InvalidRow, is_shown, last_reader(), None, None, at=1)
        for row in (((), (2,)), ((2,), (0,)), ((), (0,) * 41), ((0,) * 41, (0,)), [(), (0,)], ((), [0])):
            self.refuses(InvalidRow, row, shown, last_reader(), row)
            self.refuses(InvalidRow, row, is_shown, last_reader(), row, ("let", ([], [0])))


class TestFirstRows(PromiseCase):

    def test_by_rounds(self):
        for reader in some_readers(60):
            for many in range(MOSTS[reader.letters] + 1):
                if many > 3 and reader.many % 5:
                    continue
                rows = rows_to(reader.letters, many)
                let = [row for row in rows if oracles.is_let(reader, row)]
                barred = [row for row in rows if not oracles.is_let(reader, row)]
                self.gives(let, all_let, reader, many)
                self.gives(barred, all_barred, reader, many)
                self.gives(let[0] if let else None, first_let, reader, many)
                self.gives(barred[0] if barred else None, first_barred, reader, many)

    def test_none(self):
        for function, told in ((all_let, []), (all_barred, []), (first_let, None), (first_barred, None)):
            self.gives(told, function, last_reader(), 0)
        rows = rows_to(2, 5)
        self.gives(rows, all_let, clean_reader(2), 5)
        self.gives([], all_barred, clean_reader(2), 5)
        self.gives(None, first_barred, clean_reader(2), 5)
        self.gives([], all_let, slip_reader(2), 5)
        self.gives(rows, all_barred, slip_reader(2), 5)
        self.gives(None, first_let, slip_reader(2), 5)

    def test_not_only_the_least_row(self):
        # Only rows with nothing but 1s at last are let by: the first one isn't the first row of all.
        reader = Reader(2, 1, [(0, 0, 0, 1), (0, 1, 0, 0)])
        self.gives(((), (1,)), first_let, reader, 1)
        self.gives(((), (1,)), first_let, reader, 3)
        self.gives([((), (1,)), ((0,), (1,))], all_let, reader, 2)
        self.gives(((), (0,)), first_barred, reader, 2)
        self.gives(((), (0, 0, 0, 1)), first_barred, last_reader(), 4)
        self.gives(((), (0, 1)), first_barred, last_reader(), 2)

    def test_limits(self):
        for function in (all_let, all_barred, first_let, first_barred):
            for letters, most in MOSTS.items():
                for many in range(13):
                    if many > most:
                        self.too_many("rows", 400, function, slip_reader(letters), many)
                        self.too_many("rows", 400, function, clean_reader(letters), many)
                    elif many == most:
                        self.ask(function, clean_reader(letters), many)
                for many in (13, 14, -1, 10 ** 29):
                    self.refuses(InvalidMany, many, function, slip_reader(letters), many)

    def test_wrong(self):
        for function in (all_let, all_barred, first_let, first_barred):
            self.refuses_junk(InvalidReader, function, None, None, at=0, fine=ONE)
            self.refuses_junk(InvalidMany, function, last_reader(), None, at=1)
