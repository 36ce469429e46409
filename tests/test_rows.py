"""Rows: letters of them, normal ones, the same ones, turned on, put ahead, woven, all of them."""

import itertools
import random

from tests.tools import PromiseCase, junk, letters_of, some_row, some_rows, told_otherwise
from tworivals.errors import InvalidLetters, InvalidMany, InvalidPlace, InvalidRow, InvalidWord
from tworivals.rows import (are_same, first_unlike, is_row, letter_at, normal_row, put_ahead, rows_to, spelled,
                            turned_on, woven)

ROW = ((0, 1), (1, 0))
FAR = 400


def shortest(letters):
    """The shortest begin and again that tell these letters, which go round within their first third."""
    for begin in range(len(letters)):
        for again in range(1, 81):
            if begin + 2 * again <= len(letters) and letters[begin:-again] == letters[begin + again:]:
                return tuple(letters[:begin]), tuple(letters[begin:begin + again])
    raise AssertionError("they don't go round")


def all_words(letters, length):
    return list(itertools.product(range(letters), repeat=length))


def normals_by_hand(letters, many):
    """All normal rows, by spelling out every row."""
    found = set()
    for together in range(1, many + 1):
        for length in range(together):
            for word in all_words(letters, together):
                found.add(shortest(letters_of((word[:length], word[length:]), 60)))
    return sorted(found)


class TestIsRow(PromiseCase):

    def test_rows(self):
        for row in (((), (0,)), ((0,), (1,)), ((1, 1, 0), (0, 1)), ((1,), (1,)), ((), (0, 0))):
            self.gives(True, is_row, 2, row)

    def test_letters_are_below_their_number(self):
        for letters in (1, 2, 3, 4):
            for letter in range(-1, 6):
                fits = 0 <= letter < letters
                self.gives(fits, is_row, letters, ((), (letter,)))
                self.gives(fits, is_row, letters, ((letter,), (0,)))
                self.gives(fits, is_row, letters, ((0, 0, letter), (0, 0)))
                self.gives(fits, is_row, letters, ((0,), (0, letter, 0)))

    def test_lengths(self):
        for begin, again, fits in ((0, 1, True), (40, 1, True), (0, 40, True), (40, 40, True), (41, 1, False),
                                   (0, 41, False), (41, 41, False), (0, 0, False), (40, 0, False)):
            self.gives(fits, is_row, 1, ((0,) * begin, (0,) * again))

    def test_only_tuples(self):
        for value in ([(), (0,)], ([], (0,)), ((), [0]), ([0], [0]), [[], [0]], "01", ("", "0"), (b"", b"0"),
                      ((), (0,), ()), ((0,),), (0,), ((), range(1)), ((), {0}), ((), {0: 0}), (None, (0,)),
                      ((), None), (0, 1)):
            self.gives(False, is_row, 2, value)

    def test_bools_are_no_letters(self):
        for value in (((), (True,)), ((), (False,)), ((False,), (0,)), ((0, True), (0, 1)), ((0,), (1, False))):
            self.gives(False, is_row, 2, value)

    def test_any_value(self):
        for value in junk():
            self.assertIs(is_row(4, value), False)
        for value in (((), ([],)), ((), ({},)), (([],), (0,)), ((), ((0,),)), ((None,), (0,)), ((), ("0",))):
            self.gives(False, is_row, 4, value)

    def test_letters_are_checked(self):
        for letters in (0, 5, -1, 10 ** 20):
            self.refuses(InvalidLetters, letters, is_row, letters, ((), (0,)))
        self.refuses_junk(InvalidLetters, is_row, None, None, at=0)


class TestLetters(PromiseCase):

    def test_letter_at(self):
        row = ((3, 2), (0, 1, 2))
        for place, letter in enumerate([3, 2, 0, 1, 2, 0, 1, 2, 0]):
            self.gives(letter, letter_at, row, place)
        self.gives(0, letter_at, ((), (0, 1)), 999998)
        self.gives(1, letter_at, ((), (0, 1)), 999999)

    def test_letter_at_place(self):
        for place in (1000000, -1, 10 ** 29):
            self.refuses(InvalidPlace, place, letter_at, ROW, place)
        self.refuses_junk(InvalidPlace, letter_at, ROW, None, at=1)
        self.refuses_junk(InvalidRow, letter_at, None, -1, at=0)

    def test_spelled(self):
        self.gives([], spelled, ROW, 0)
        self.gives([1, 0, 1, 0], spelled, ((1,), (0, 1)), 4)
        self.gives([2], spelled, ((2, 3), (0,)), 1)
        self.gives([0, 1] + [1, 0] * 199, spelled, ROW, 400)
        for row in some_rows(4, 40):
            self.gives(letters_of(row, 57), spelled, row, 57)
            self.gives(letters_of(row, 57)[56], letter_at, row, 56)

    def test_spelled_many(self):
        for many in (401, -1, 10 ** 29):
            self.refuses(InvalidMany, many, spelled, ROW, many)
        self.refuses_junk(InvalidMany, spelled, ROW, None, at=1)
        self.refuses_junk(InvalidRow, spelled, None, -1, at=0)

    def test_rows_without_a_reader_have_letters_below_four(self):
        self.gives([3, 3], spelled, ((), (3,)), 2)
        for row in (((), (4,)), ((4,), (0,)), ((), (True,)), ((False,), (0,)), ([], (0,)), ((), [0]), [(), (0,)],
                    ((), ()), ((0,) * 41, (0,)), ((), (0,) * 41)):
            self.refuses(InvalidRow, row, spelled, row, 1)
            self.refuses(InvalidRow, row, normal_row, row)
            self.refuses(InvalidRow, row, letter_at, row, 1)
            self.refuses(InvalidRow, row, are_same, row, ROW)
            self.refuses(InvalidRow, row, are_same, ROW, row)
            self.refuses(InvalidRow, row, first_unlike, row, ROW)
            self.refuses(InvalidRow, row, first_unlike, ROW, row)
            self.refuses(InvalidRow, row, turned_on, row, 1)
            self.refuses(InvalidRow, row, put_ahead, [], row)
            self.refuses(InvalidRow, row, woven, row, ROW)
            self.refuses(InvalidRow, row, woven, ROW, row)


class TestNormal(PromiseCase):

    def test_several_times_over(self):
        self.gives(((), (0,)), normal_row, ((), (0,) * 40))
        self.gives(((), (0, 1)), normal_row, ((), (0, 1) * 20))
        self.gives(((), (0, 1, 1)), normal_row, ((), (0, 1, 1, 0, 1, 1)))
        self.gives(((), (0, 1, 0, 0)), normal_row, ((), (0, 1, 0, 0)))
        self.gives(((), (0, 1, 0)), normal_row, ((), (0, 1, 0)))

    def test_begin_ends_as_again(self):
        self.gives(((), (0, 1)), normal_row, ((0, 1), (0, 1)))
        self.gives(((), (1, 0)), normal_row, ((1,), (0, 1)))
        self.gives(((1,), (0,)), normal_row, ((1, 0, 0), (0, 0)))
        self.gives(((), (2,)), normal_row, ((2,) * 40, (2,) * 40))
        self.gives(((0,), (1, 2)), normal_row, ((0, 1, 2, 1), (2, 1, 2, 1)))

    def test_longest(self):
        begin, again = (1,) * 39 + (2,), (0,) * 39 + (1,)
        self.gives((begin, again), normal_row, (begin, again))

    def test_by_hand(self):
        for letters in (1, 2, 3, 4):
            for row in some_rows(letters, 60, letters):
                self.gives(shortest(letters_of(row, 60)), normal_row, row)

    def test_all_that_are_the_same_have_one(self):
        for row in some_rows(3, 60):
            normal = normal_row(row)
            self.gives(normal, normal_row, normal)
            self.gives(True, is_row, 3, normal)
            for other in told_otherwise(row):
                self.gives(normal, normal_row, other)

    def test_wrong(self):
        self.refuses_junk(InvalidRow, normal_row, None, at=0)


class TestSame(PromiseCase):

    def test_same(self):
        for row in some_rows(2, 60):
            self.gives(True, are_same, row, row)
            self.gives(None, first_unlike, row, row)
            for other in told_otherwise(row):
                self.gives(True, are_same, row, other)
                self.gives(True, are_same, other, row)
                self.gives(None, first_unlike, row, other)
                self.gives(None, first_unlike, other, row)

    def test_by_letters(self):
        rows = some_rows(2, 40)
        for row, other in zip(rows, rows[1:]):
            spelt = list(zip(letters_of(row, FAR), letters_of(other, FAR)))
            unlike = [place for place, (one, two) in enumerate(spelt) if one != two]
            self.gives(not unlike, are_same, row, other)
            self.gives(unlike[0] if unlike else None, first_unlike, row, other)

    def test_unlike_far_on(self):
        # Alike for almost both rounds: no shorter look would do.
        shorter, longer = (0,), (0, 1)
        while len(longer) < 34:
            shorter, longer = longer, longer + shorter
        self.assertEqual((len(shorter), len(longer)), (21, 34))
        self.gives(53, first_unlike, ((), shorter), ((), longer))
        self.gives(53, first_unlike, ((), longer), ((), shorter))
        self.gives(93, first_unlike, ((1,) * 40, shorter), ((1,) * 40, longer))
        self.gives(False, are_same, ((1,) * 40, shorter), ((1,) * 40, longer))
        self.gives(9, first_unlike, ((), (0, 0, 0, 0, 1)), ((), (0, 0, 0, 0, 1, 0, 0, 0)))
        # The longer begin counts, whichever row has it.
        row = ((), (0,) * 20 + (1,))
        other = (tuple(letters_of(row, 40)), (0,))
        self.gives(41, first_unlike, row, other)
        self.gives(41, first_unlike, other, row)
        begin = (1,) * 40
        self.gives(40, first_unlike, (begin, (0,)), ((), (1,)))
        self.gives(40 + 39, first_unlike, (begin, (0,) * 39 + (1,)), (begin, (0,)))
        self.gives(False, are_same, (begin, (0,) * 39 + (1,)), (begin, (0,)))

    def test_wrong(self):
        for function in (are_same, first_unlike, woven):
            self.refuses_junk(InvalidRow, function, None, ((), ()), at=0)
            self.refuses_junk(InvalidRow, function, ROW, None, at=1)


class TestTurnedOn(PromiseCase):

    def test_turned_on(self):
        self.gives(((), (1, 0)), turned_on, ((1, 0), (0, 1)), 3)
        self.gives(((2, 1), (0,)), turned_on, ((3, 2, 1), (0, 0)), 1)
        self.gives(((), (0,)), turned_on, ((3, 2, 1), (0, 0)), 3)
        self.gives(((), (2, 0, 1)), turned_on, ((), (0, 1, 2)), 5)
        self.gives(((), (0, 1)), turned_on, ((), (0, 1)), 0)

    def test_by_letters(self):
        for row in some_rows(3, 30):
            for many in list(range(9)) + [100]:
                self.gives(shortest(letters_of(row, many + 60)[many:]), turned_on, row, many)

    def test_far(self):
        self.gives(((), (1, 0)), turned_on, ((0,), (0, 1)), 999998)
        self.gives(((), (0, 1)), turned_on, ((0,), (0, 1)), 999999)
        for row in some_rows(2, 20):
            begin, again = row
            self.gives(turned_on(row, len(begin)), turned_on, row, len(begin) + len(again))

    def test_turned_on_by_a_word_put_ahead(self):
        for row, (word, _) in zip(some_rows(3, 40), some_rows(3, 40, 2)):
            self.gives(normal_row(row), turned_on, put_ahead(word, row), len(word))

    def test_wrong(self):
        for many in (1000000, -1, 10 ** 29):
            self.refuses(InvalidMany, many, turned_on, ROW, many)
        self.refuses_junk(InvalidMany, turned_on, ROW, None, at=1)
        self.refuses_junk(InvalidRow, turned_on, None, -1, at=0)


class TestPutAhead(PromiseCase):

    def test_put_ahead(self):
        self.gives(((), (1, 0)), put_ahead, [1], ((), (0, 1)))
        self.gives(((1,), (1, 0)), put_ahead, (1, 1), ((), (0, 1)))
        self.gives(((0, 1, 2), (3,)), put_ahead, [0, 1], ((2,), (3, 3)))
        self.gives(((), (0, 1)), put_ahead, [], ((), (0, 1, 0, 1)))

    def test_by_letters(self):
        for row, (word, _) in zip(some_rows(2, 60), some_rows(2, 60, 2)):
            self.gives(shortest(list(word) + letters_of(row, 60)), put_ahead, list(word), row)
            self.gives(shortest(list(word) + letters_of(row, 60)), put_ahead, word, row)

    def test_most(self):
        word = [1] * 39 + [2]
        self.gives((tuple(word), (1,)), put_ahead, word, ((), (1,)))
        self.gives(((1,) * 39 + (0,), (2,)), put_ahead, [1] * 20, ((1,) * 19 + (0,), (2,)))
        self.too_many("letters", 40, put_ahead, [1] * 21, ((1,) * 19 + (0,), (2,)))
        self.too_many("letters", 40, put_ahead, word, ((1,), (0,)))
        self.too_many("letters", 40, put_ahead, [1], ((0,) * 40, (1,)))

    def test_the_normal_one_counts(self):
        self.gives(((), (0,)), put_ahead, [0] * 40, ((0,) * 40, (0,) * 40))
        self.gives(((2,), (0,)), put_ahead, [2], ((0,) * 40, (0,)))
        self.gives(((), (0, 1)), put_ahead, [0, 1] * 20, ((0, 1) * 20, (0, 1)))

    def test_wrong(self):
        for word in ([0] * 41, (0,) * 41, [4], [0, -1], [True], [False], [0, None], ["0"], "0", b"0", range(1), {0}):
            self.refuses(InvalidWord, word, put_ahead, word, ROW)
        self.refuses_junk(InvalidWord, put_ahead, None, None, at=0, fine=([], [0], (), (0,)))
        self.refuses_junk(InvalidRow, put_ahead, [0] * 40, None, at=1)


class TestWoven(PromiseCase):

    def test_woven(self):
        self.gives(((), (0, 1)), woven, ((), (0,)), ((), (1,)))
        self.gives(((), (1, 0)), woven, ((), (1,)), ((), (0,)))
        self.gives(((0, 1, 0), (1, 2)), woven, ((0, 0), (2,)), ((), (1,)))
        self.gives(((), (3,)), woven, ((), (3,)), ((3,) * 9, (3,) * 7))

    def test_by_letters(self):
        source = random.Random(5)
        for _ in range(60):
            row, other = some_row(source, 3, 3, 3), some_row(source, 3, 3, 3)
            pairs = zip(letters_of(row, 30), letters_of(other, 30))
            self.gives(shortest([letter for pair in pairs for letter in pair]), woven, row, other)

    def test_most(self):
        self.gives(((), (0, 1) + (0, 0) * 19), woven, ((), (0,)), ((), (1,) + (0,) * 19))
        self.too_many("letters", 40, woven, ((), (0,)), ((), (1,) + (0,) * 20))
        begin, other = (1,) * 20, (3,) * 20
        self.gives(((1, 3) * 20, (0, 2)), woven, (begin, (0,)), (other, (2,)))
        self.too_many("letters", 40, woven, (begin + (1,), (0,)), (other, (2,)))
        self.too_many("letters", 40, woven, (begin, (0,)), (other + (3,), (2,)))
        self.gives(((1, 3) * 19 + (1,), (3, 0)), woven, (begin, (0,)), ((), (3,)))
        four, five = (0, 0, 0, 1), (0, 0, 0, 0, 1)
        by_turns = [letter for pair in zip(four * 5, five * 4) for letter in pair]
        self.gives(((), tuple(by_turns)), woven, ((), four), ((), five))
        self.too_many("letters", 40, woven, ((), five), ((), (0, 0, 0, 1, 0, 0, 0)))
        self.too_many("letters", 40, woven, ((), (0,) * 36 + (1,)), ((), (0,) * 39 + (1,)))

    def test_long_rounds_that_fold(self):
        self.gives(((), (0,)), woven, ((0,) * 40, (0,) * 40), ((0,) * 39, (0,) * 37))
        self.gives(((), (0, 1)), woven, ((0,) * 40, (0,) * 39), ((1,) * 38, (1,) * 37))


class TestRowsTo(PromiseCase):

    def test_by_hand(self):
        for letters, most in ((1, 8), (2, 6), (3, 4), (4, 3)):
            for many in range(most + 1):
                rows = normals_by_hand(letters, many)
                self.assertLessEqual(len(rows), 400)
                self.gives(rows, rows_to, letters, many)

    def test_none_and_one_letter(self):
        for letters in (1, 2, 3, 4):
            self.gives([], rows_to, letters, 0)
            self.gives([((), (letter,)) for letter in range(letters)], rows_to, letters, 1)
        for many in range(1, 13):
            self.gives([((), (0,))], rows_to, 1, many)

    def test_all_are_normal(self):
        for row in rows_to(3, 4):
            self.gives(row, normal_row, row)

    def test_most(self):
        for letters, most in ((2, 7), (3, 4), (4, 3)):
            fits = [many for many in range(most + 1) if len(normals_by_hand(letters, many)) <= 400]
            for many in range(13):
                if many <= fits[-1]:
                    self.assertEqual(len(rows_to(letters, many)), len(normals_by_hand(letters, many)))
                else:
                    self.too_many("rows", 400, rows_to, letters, many)

    def test_wrong(self):
        for letters in (0, 5, -1, 10 ** 29):
            self.refuses(InvalidLetters, letters, rows_to, letters, 1)
        for many in (13, -1, 10 ** 29):
            self.refuses(InvalidMany, many, rows_to, 1, many)
            self.refuses(InvalidMany, many, rows_to, 4, many)
        self.refuses_junk(InvalidLetters, rows_to, None, -1, at=0)
        self.refuses_junk(InvalidMany, rows_to, 2, None, at=1)

    def test_new_each_time(self):
        rows = rows_to(2, 2)
        rows.clear()
        self.assertEqual(len(rows_to(2, 2)), 6)
