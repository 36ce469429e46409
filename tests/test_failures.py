"""Failing wishes and their papers, and the wishes that foes make."""

import random

from tests import oracles, play_oracles, wish_oracles
from tests.limits import LETTER_600_LOST, LETTER_601_LOST, LETTER_601_WON, reader_at
from tests.play_oracles import GUESS, LONE, ONCE, PARTS, doubtful_readers, small_readers
from tests.tools import (WAYS_401, PromiseCase, changed, clean_reader, full_reader, junk, last_reader, slip_reader,
                         step_reader)
from tests.wish_limits import POSITIONS_23, POSITIONS_24, STAND_IN_601_LOST, game_at
from tests.wish_oracles import some_games
from tworivals.errors import InvalidFoe, InvalidReader, InvalidWish
from tworivals.failing import let_paper, spoil_paper
from tworivals.failures import failing_paper, failing_wish, foe_wish, is_failing, is_failing_paper
from tworivals.foes import foe_of
from tworivals.plays import has_chooser
from tworivals.readers import Reader
from tworivals.wishes import Wish, stand_in_winner, wish_winner

FIRST = ((0,), (0,))
SPLIT = ((1, 2), (1, 2))
ONE = [Reader(1, 1, [(0, 0, 0, 0)])]
ONE_WISH = [Wish(1, [0], [[(0, 0)]])]
FOE = [((0, FIRST), 0), ((1, SPLIT), 1), ((2, SPLIT), 0)]


def guess_reader():
    return Reader(*GUESS)


def free_wish(letters=2):
    """One place of hand 1, where any letter may be named."""
    return Wish(1, [1], [[(letter, 0) for letter in range(letters)]])


def coming_positions(reader):
    """All positions that come, by whatever letters and ways."""
    come = [(0, FIRST)]
    for position in come:
        for letter in range(reader.letters):
            come += [to for to in dict.fromkeys(step[1] for step in play_oracles.steps_of(reader, position, letter))
                     if to not in come]
    return come


def wish_of(reader, foe):
    """The foe's board by its words."""
    letters = dict(foe)
    places = [None] + [position for position, _ in foe]
    moves = [[(letters[(0, FIRST)], places.index((0, FIRST)))]]
    for position, letter in foe:
        behind = {step[1] for step in play_oracles.steps_of(reader, position, letter)}
        moves.append(sorted((letters[to], places.index(to)) for to in behind))
    return Wish(len(places), [1] * len(places), moves)


def all_positions(reader, most):
    """Some positions in which by all letters all goes on, whether they come or not, none of them failing of itself."""
    room_pairs = [((room,), (room,)) for room in range(reader.rooms)]
    return [((room, pair), 0) for room in range(reader.rooms) for pair in room_pairs][:most]


class TestFailing(PromiseCase):

    def checked(self, reader, wish):
        told = wish_oracles.is_all_let(reader, wish) and wish_oracles.spoils(reader, wish)
        self.gives(told, is_failing, reader, wish)
        paper = self.ask(failing_paper, reader, wish, exact=False)
        if not told:
            self.assertIsNone(paper)
            return False
        self.assertIs(type(paper), tuple)
        self.assertEqual(len(paper), 2)
        self.assertTrue(wish_oracles.is_let_paper(reader, wish, paper[0]))
        self.assertTrue(wish_oracles.is_spoil_paper(reader, wish, paper[1]))
        self.gives(True, is_failing_paper, reader, wish, paper)
        return True

    def test_guess(self):
        self.assertTrue(self.checked(guess_reader(), free_wish()))
        self.assertFalse(self.checked(guess_reader(), Wish(1, [1], [[(0, 0)]])))
        self.assertFalse(self.checked(guess_reader(), Wish(1, [0], [[(0, 0), (1, 0)]])))
        # Lost in the wish, too; won in both.
        self.assertFalse(self.checked(slip_reader(2), free_wish()))
        self.assertFalse(self.checked(clean_reader(2), free_wish()))

    def test_by_definition(self):
        found = {True: 0, False: 0}
        games = some_games(60, 31) + [(reader, free_wish(reader.letters)) for reader in doubtful_readers(250, 32)]
        for reader, wish in games + some_games(0, 33, doubtful_readers(60, 33), places=2):
            if len(oracles.coming_standings(reader)) > 400:
                self.too_many("standings", 400, is_failing, reader, wish)
                self.too_many("standings", 400, failing_paper, reader, wish)
                continue
            told = self.checked(reader, wish)
            found[told] += 1
            boards = wish_oracles.wish_board(reader, wish)[0], wish_oracles.stand_in_board(reader, wish)[0]
            if told and None not in boards:
                self.assertEqual((wish_winner(reader, wish), stand_in_winner(reader, wish)), (0, 1))
            if play_oracles.letter_board(reader)[0] is not None and has_chooser(reader):
                self.assertFalse(told)
        self.assertGreater(min(found.values()), 20)

    def test_many_standings(self):
        for reader in (full_reader(), Reader(3, 7, WAYS_401)):
            self.too_many("standings", 400, is_failing, reader, ONE_WISH[0])
            self.too_many("standings", 400, failing_paper, reader, ONE_WISH[0])
            self.gives(False, is_failing_paper, reader, ONE_WISH[0], ([], []))

    def test_beyond_600_places(self):
        reader, wish = game_at(STAND_IN_601_LOST)
        self.assertEqual(len(wish_oracles.stand_in_board(reader, wish)[1]), 601)
        self.checked(reader, wish)

    def test_papers(self):
        guess, free = guess_reader(), free_wish()
        let, spoil = let_paper(guess, free), spoil_paper(guess, free)
        self.gives(True, is_failing_paper, guess, free, (let, spoil))
        self.gives(True, is_failing_paper, guess, free, (tuple(let), tuple(spoil)))
        for value in ((spoil, let), [let, spoil], (let,), (spoil,), (let, spoil, None), (let, None), (None, spoil), let,
                      (let, let), (spoil, spoil), (), None):
            self.gives(False, is_failing_paper, guess, free, value)
        for at, rule in ((0, wish_oracles.is_let_paper), (1, wish_oracles.is_spoil_paper)):
            found = {True: 0, False: 0}
            for part in changed((let, spoil)[at]):
                fits = rule(guess, free, part)
                self.gives(fits, is_failing_paper, guess, free, (part, spoil) if at == 0 else (let, part))
                found[fits] += 1
            self.assertGreater(min(found.values()), 1)

    def test_any_value(self):
        for value in junk():
            for told in (value, (value, value), (value, []), ([], value)):
                self.assertIs(is_failing_paper(guess_reader(), free_wish(), told), False)

    def test_wrong(self):
        for function, more in ((is_failing, []), (failing_paper, []), (is_failing_paper, [None])):
            self.refuses_junk(InvalidReader, function, None, None, *more, at=0, fine=ONE)
            self.refuses_junk(InvalidWish, function, full_reader(), None, *more, at=1, fine=ONE_WISH)
            for letters in (1, 2, 3):
                self.refuses(InvalidWish, free_wish(letters + 1), function, clean_reader(letters), free_wish(letters + 1),
                             *more)


class TestFoeWish(PromiseCase):

    def test_guess(self):
        guess = guess_reader()
        told = Wish(4, [1] * 4, [[(0, 1)], [(0, 3), (1, 2)], [(0, 1)], [(0, 1)]])
        self.gives(told, foe_wish, guess, FOE)
        self.gives(told, foe_wish, guess, tuple(FOE))
        self.gives(True, is_failing, guess, told)

    def test_positions_that_do_not_come(self):
        for extra in (1, 2, 5):
            reader, foe = self.long_foe(extra)
            wish = wish_of(reader, foe)
            self.assertEqual(wish.many, 3 + extra + 1)
            self.gives(wish, foe_wish, reader, foe)
            self.gives(True, is_failing, reader, wish)

    def test_by_definition(self):
        many = 0
        for reader in doubtful_readers(150, 34) + small_readers(60, 34):
            if play_oracles.letter_board(reader)[0] is None or has_chooser(reader):
                continue
            foe = foe_of(reader)
            if len(foe) > 23:
                self.too_many("places", 24, foe_wish, reader, foe)
                continue
            self.gives(wish_of(reader, foe), foe_wish, reader, foe)
            self.gives(True, is_failing, reader, foe_wish(reader, foe))
            many += 1
        self.assertGreater(many, 40)

    def test_24_places(self):
        # Behind a position a foe may name the letter of any that is led to; more positions come of rooms nobody comes to.
        found = set()
        for extra in range(15, 25):
            reader, foe = self.long_foe(extra)
            self.assertTrue(play_oracles.is_foe(reader, foe))
            if len(foe) + 1 > 24:
                self.too_many("places", 24, foe_wish, reader, foe)
            else:
                self.gives(wish_of(reader, foe), foe_wish, reader, foe)
            found.add(len(foe) + 1)
        self.assertLessEqual({24, 25}, found)

    def long_foe(self, extra):
        """A reader without a chooser, and a foe with so many positions that don't come along it."""
        reader = Reader(2, 4, GUESS[2] + [(3, 0, 0, 1), (3, 1, 0, 1)])
        source = random.Random(extra)
        foe = list(FOE)
        lots = [(lot, clean) for lot in ((1, 2), (0,), (0, 1), (0, 1, 2), (1, 2, 3), (0, 3), (1, 3), (0, 2), (0, 1, 2, 3))
                for clean in (lot, lot[:1], lot[-1:])]
        while len(foe) < 3 + extra:
            more = ((source.randrange(4), source.choice(lots)), source.randrange(2))
            value = sorted(foe + [more])
            # What it goes on to must be there, too.
            behind = [(step[1], letter) for step in play_oracles.steps_of(reader, *more) for letter in (0, 1)]
            for one in behind:
                if one[0] not in dict(value) and len(value) < 3 + extra:
                    value = sorted(value + [one])
            if play_oracles.is_foe(reader, value):
                foe = value
        return reader, foe

    def test_wrong(self):
        guess = guess_reader()
        self.refuses_junk(InvalidReader, foe_wish, None, None, at=0, fine=ONE)
        self.refuses_junk(InvalidFoe, foe_wish, guess, None, at=1)
        for value in changed(FOE):
            if play_oracles.is_foe(guess, value):
                self.gives(wish_of(guess, value), foe_wish, guess, value)
            else:
                self.refuses(InvalidFoe, value, foe_wish, guess, value)
        # No foe: whatever is too long comes behind.
        self.refuses(InvalidFoe, all_positions(step_reader(0), 30), foe_wish, step_reader(0), all_positions(step_reader(0), 30))


class TestFailingWish(PromiseCase):

    def checked(self, reader):
        if len(coming_positions(reader)) > 23:
            self.too_many("places", 24, failing_wish, reader)
            return False
        wish = self.ask(failing_wish, reader, exact=False)
        self.assertIs(type(wish), Wish)
        self.assertTrue(wish_oracles.is_all_let(reader, wish) and wish_oracles.spoils(reader, wish))
        self.gives(True, is_failing, reader, wish)
        self.gives(True, is_failing_paper, reader, wish, failing_paper(reader, wish))
        return True

    def test_examples(self):
        for told in (GUESS, ONCE, PARTS, LONE):
            self.checked(Reader(*told))
        self.gives(None, failing_wish, Reader(1, 1, [(0, 0, 0, 0)]))
        for reader in (clean_reader(4), slip_reader(4), last_reader(), step_reader(0)):
            self.gives(None, failing_wish, reader)

    def test_who_has_none(self):
        found = {None: 0, True: 0, False: 0}
        for reader in doubtful_readers(150, 35) + small_readers(60, 35):
            if play_oracles.letter_board(reader)[0] is None:
                continue
            if has_chooser(reader):
                self.gives(None, failing_wish, reader)
                found[None] += 1
            else:
                found[self.checked(reader)] += 1
        self.assertGreater(min(found.values()), 2)
        self.assertGreater(found[True], 50)

    def test_24_places(self):
        for limit, many in ((POSITIONS_23, 23), (POSITIONS_24, 24)):
            reader = reader_at(limit)
            self.assertEqual(len(coming_positions(reader)), many)
            self.assertEqual(self.checked(reader), many == 23)
            # A foe of fewer positions makes one all the same.
            self.gives(True, is_failing, reader, foe_wish(reader, foe_of(reader)))

    def test_too_many_of_foes(self):
        for limit in (LETTER_601_WON, LETTER_601_LOST):
            self.too_many("places", 600, failing_wish, reader_at(limit))
        for reader in (full_reader(), Reader(3, 7, WAYS_401)):
            self.too_many("standings", 400, failing_wish, reader)
        self.too_many("places", 24, failing_wish, reader_at(LETTER_600_LOST))

    def test_wrong(self):
        self.refuses_junk(InvalidReader, failing_wish, None, at=0, fine=ONE)
