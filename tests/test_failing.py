"""Wishes that are all let, let papers, barred plays, and spoil papers."""

import random

from tests import oracles, play_oracles, wish_oracles
from tests.play_oracles import GUESS, doubtful_readers, small_readers
from tests.tools import (WAYS_400, WAYS_401, PromiseCase, changed, clean_reader, full_reader, junk, last_reader,
                         slip_reader, some_readers)
from tests.wish_limits import STAND_IN_600_LOST, STAND_IN_601_LOST, STAND_IN_601_WON, game_at
from tests.wish_oracles import some_games, some_wish
from tworivals.errors import InvalidReader, InvalidWish
from tworivals.failing import barred_play, is_all_let, is_let_paper, is_spoil_paper, let_paper, spoil_paper
from tworivals.plays import has_chooser
from tworivals.readers import Reader
from tworivals.runs import lets_by
from tworivals.wishes import Wish, row_of_play, stand_in_winner

FIRST = ((0,), (0,))
SPLIT = ((1, 2), (1, 2))
ONE = [Reader(1, 1, [(0, 0, 0, 0)])]
ONE_WISH = [Wish(1, [0], [[(0, 0)]])]
TOLD = (is_all_let, let_paper, barred_play, spoil_paper)
JUDGES = (is_let_paper, is_spoil_paper)
LET = [((0, FIRST), 0), ((0, SPLIT), 0)]
SPOIL = [((0, 0), (0, 0), 1), ((0, 1), (1, 0), 0), ((0, 2), (0, 0), 0)]


def guess_reader():
    return Reader(*GUESS)


def free_wish(letters=2, owner=1):
    """One place, where any letter may be named."""
    return Wish(1, [owner], [[(letter, 0) for letter in range(letters)]])


def late_wish(places):
    """It goes on by 0s from place to place, the last of which lets one go on by 1s for ever."""
    return Wish(places, [1] * places, [[(0, at + 1)] for at in range(places - 1)] + [[(0, places - 1), (1, places - 1)]])


def games():
    return (some_games(80, 21) + some_games(0, 22, some_readers(60), places=3)
            + some_games(0, 23, doubtful_readers(60, 23), places=3)
            + [(reader, free_wish(reader.letters)) for reader in doubtful_readers(40, 24)])


class TestAllLet(PromiseCase):

    def checked(self, reader, wish):
        """All that is told of its plays fits together; whether it is all let."""
        if len(oracles.coming_standings(reader)) > 400:
            for function in (is_all_let, let_paper, barred_play):
                self.too_many("standings", 400, function, reader, wish)
            return None
        told = wish_oracles.is_all_let(reader, wish)
        self.gives(told, is_all_let, reader, wish)
        if told:
            self.gives(None, barred_play, reader, wish)
            paper = self.ask(let_paper, reader, wish, exact=False)
            self.assertIs(type(paper), list)
            self.assertTrue(wish_oracles.is_let_paper(reader, wish, paper))
            self.gives(True, is_let_paper, reader, wish, paper)
        else:
            self.gives(None, let_paper, reader, wish)
            play = self.ask(barred_play, reader, wish, exact=False)
            self.assertTrue(wish_oracles.is_wish_play(wish, play, 20000), play)
            self.assertFalse(oracles.is_let(reader, wish_oracles.row_of(play)))
            if max(len(play[0]), len(play[1])) <= 40:
                self.assertFalse(lets_by(reader, row_of_play(wish, play)))
        return told

    def test_examples(self):
        self.assertTrue(self.checked(guess_reader(), free_wish()))
        self.assertFalse(self.checked(last_reader(), free_wish()))
        self.assertTrue(self.checked(last_reader(), Wish(1, [1], [[(0, 0)]])))
        self.assertTrue(self.checked(last_reader(), late_wish(1 + 1)) is False)
        for letters in (1, 2, 3, 4):
            self.assertTrue(self.checked(clean_reader(letters), free_wish(letters)))
            self.assertFalse(self.checked(slip_reader(letters), free_wish(letters, 0)))

    def test_whoever_makes_the_moves(self):
        for owner in (0, 1):
            for told, reader in ((True, guess_reader()), (False, last_reader())):
                self.gives(told, is_all_let, reader, free_wish(2, owner))

    def test_by_definition(self):
        found = {True: 0, False: 0, None: 0}
        for reader, wish in games():
            found[self.checked(reader, wish)] += 1
        self.assertGreater(min(found[True], found[False]), 40)

    def test_plays_of_let_wishes(self):
        source = random.Random(24)
        plays = 0
        for reader, wish in games()[:120]:
            let = is_all_let(reader, wish) if len(oracles.coming_standings(reader)) <= 400 else None
            gone, place, places = [], 0, []
            while place not in places or source.randrange(3):
                places.append(place)
                gone.append(source.choice(wish.moves()[place]))
                place = gone[-1][1]
            at = places.index(place)
            if let:
                self.assertTrue(oracles.is_let(reader, wish_oracles.row_of((gone[:at], gone[at:]))))
                plays += 1
        self.assertGreater(plays, 20)

    def test_what_hangs_on_the_letter_alone(self):
        # By both letters one comes to the same standing, but only by 1 with a break.
        reader = Reader(2, 1, [(0, 0, 0, 0), (0, 1, 0, 1)])
        self.assertEqual(oracles.going_on(reader, FIRST, 0)[0], oracles.going_on(reader, FIRST, 1)[0])
        self.gives(([], [(1, 0)]), barred_play, reader, free_wish())
        wish = Wish(2, [0, 1], [[(0, 1), (1, 1)], [(0, 0)]])
        self.assertFalse(self.checked(reader, wish))
        self.assertEqual(sorted(barred_play(reader, wish)[0] + barred_play(reader, wish)[1]), [(0, 0), (1, 1)])

    def test_far_off(self):
        for places in (2, 24):
            wish = late_wish(places)
            self.assertFalse(self.checked(Reader(2, 1, [(0, 0, 0, 0), (0, 1, 0, 1)]), wish))
            self.assertTrue(self.checked(Reader(2, 1, [(0, 0, 0, 1), (0, 1, 0, 0)]), wish) is False)
            self.assertTrue(self.checked(clean_reader(2), wish))

    def test_many_standings(self):
        for letters, rooms, ways in ((2, 8, WAYS_400),):
            wish = Wish(3, [0, 1, 0], [[(0, 1), (1, 2)], [(1, 0)], [(0, 0), (1, 1)]])
            self.checked(Reader(letters, rooms, ways), wish)
        for reader in (Reader(3, 7, WAYS_401), full_reader()):
            for function in (is_all_let, let_paper, barred_play):
                self.too_many("standings", 400, function, reader, ONE_WISH[0])

    def test_wrong(self):
        for function in TOLD + JUDGES:
            more = [None] if function in JUDGES else []
            self.refuses_junk(InvalidReader, function, None, None, *more, at=0, fine=ONE)
            self.refuses_junk(InvalidWish, function, full_reader(), None, *more, at=1, fine=ONE_WISH)
            for letters in (1, 2, 3):
                for wish in (free_wish(letters + 1), Wish(2, [0, 1], [[(0, 0)], [(letters, 1)]])):
                    self.refuses(InvalidWish, wish, function, clean_reader(letters), wish, *more)


class TestLetPapers(PromiseCase):

    def test_guess(self):
        guess, free = guess_reader(), free_wish()
        self.gives(True, is_let_paper, guess, free, LET)
        self.gives(True, is_let_paper, guess, free, tuple(LET))
        self.gives(True, is_let_paper, guess, free, [(LET[0][0], 9999999), (LET[1][0], 9999999)])
        more = ((0, ((0,), (0,))), 3), ((0, ((0, 1), (1,))), 5)
        for value in (LET[:1], LET[1:], LET[::-1], LET + LET[-1:], [], [(LET[0][0], 10000000), LET[1]], [LET[0], more[1]],
                      [list(item) for item in LET], dict(LET), [(LET[0][0], 0), (LET[1][0], 1)], None):
            self.assertIs(wish_oracles.is_let_paper(guess, free, value), False)
            self.gives(False, is_let_paper, guess, free, value)
        self.gives(True, is_let_paper, guess, free, [more[0], (LET[1][0], 3)])

    def test_breaks(self):
        # By 1 it breaks; once.
        reader = Reader(2, 1, [(0, 0, 0, 0), (0, 1, 0, 1)])
        wish = Wish(2, [0, 0], [[(1, 1)], [(0, 1)]])
        for numbers, fits in (((1, 0), True), ((2, 1), True), ((9, 3), True), ((0, 0), False), ((1, 1), False), ((0, 1), False)):
            self.gives(fits, is_let_paper, reader, wish, [((at, FIRST), number) for at, number in enumerate(numbers)])
        wish = Wish(2, [0, 0], [[(0, 1)], [(0, 1)]])
        for numbers, fits in (((1, 0), True), ((0, 0), True), ((5, 5), True), ((0, 1), False)):
            self.gives(fits, is_let_paper, reader, wish, [((at, FIRST), number) for at, number in enumerate(numbers)])

    def test_one_thing_otherwise(self):
        yes = no = 0
        for reader, wish in games()[::3]:
            paper = let_paper(reader, wish) if wish_oracles.is_all_let(reader, wish) else None
            if paper is None or len(paper) > 12:
                continue
            for value in changed(paper):
                fits = wish_oracles.is_let_paper(reader, wish, value)
                self.assertIs(is_let_paper(reader, wish, value), fits, (value, paper))
                yes, no = yes + fits, no + (not fits)
        self.assertGreater(yes, 50)
        self.assertGreater(no, 2000)

    def test_no_paper_otherwise(self):
        source = random.Random(25)
        for reader, wish in games()[:80]:
            steps = wish_oracles.pair_steps(reader, wish)
            if len(steps) < 12 and not wish_oracles.is_all_let(reader, wish):
                for most in (1, 2, 4):
                    value = sorted([(pair, source.randrange(most)) for pair in steps])
                    self.gives(False, is_let_paper, reader, wish, value)

    def test_any_value(self):
        for reader, wish in ((guess_reader(), free_wish()), (clean_reader(), ONE_WISH[0])):
            for value in junk():
                for told in (value, [value], [(value, 0)], [((0, FIRST), value)], [((value, FIRST), 0)], [((0, value), 0)],
                             [((0, ((0,), value)), 0)], [((0, FIRST), 0), value], [value, ((0, FIRST), 0)]):
                    self.assertIs(is_let_paper(reader, wish, told), wish_oracles.is_let_paper(reader, wish, told), told)

    def test_without_too_many(self):
        for reader in (full_reader(), Reader(3, 7, WAYS_401), Reader(2, 8, WAYS_400)):
            for value in (None, [], [((0, FIRST), 0)]):
                self.gives(False, is_let_paper, reader, ONE_WISH[0], value)
                self.gives(False, is_spoil_paper, reader, ONE_WISH[0], value)


class TestSpoilPapers(PromiseCase):

    def checked(self, reader, wish):
        told = wish_oracles.spoils(reader, wish)
        if not told:
            self.gives(None, spoil_paper, reader, wish)
            return None
        paper = self.ask(spoil_paper, reader, wish, exact=False)
        self.assertIs(type(paper), list)
        self.assertTrue(wish_oracles.is_spoil_paper(reader, wish, paper), paper)
        self.gives(True, is_spoil_paper, reader, wish, paper)
        return paper

    def test_guess(self):
        guess, free = guess_reader(), free_wish()
        self.assertIsNotNone(self.checked(guess, free))
        self.gives(True, is_spoil_paper, guess, free, SPOIL)
        self.gives(True, is_spoil_paper, guess, free, tuple(SPOIL))
        self.gives(True, is_spoil_paper, guess, free, [((0, 0), (1, 0), 9999999), SPOIL[1], SPOIL[2]])
        for value in ([((0, 0), (0, 0), 0)] + SPOIL[1:], SPOIL[:2], SPOIL[1:], SPOIL[::-1], SPOIL + SPOIL[-1:], [],
                      [((0, 0), (0, 0), 10000000)] + SPOIL[1:], [((0, 0), None, 1)] + SPOIL[1:], None,
                      [SPOIL[0], ((0, 1), (0, 0), 0), SPOIL[2]], [SPOIL[0], ((0, 1), (1, 1), 0), SPOIL[2]],
                      [SPOIL[0], ((0, 1), [1, 0], 0), SPOIL[2]], [list(item) for item in SPOIL]):
            self.assertIs(wish_oracles.is_spoil_paper(guess, free, value), False)
            self.gives(False, is_spoil_paper, guess, free, value)
        self.gives(None, spoil_paper, guess, Wish(1, [1], [[(0, 0)]]))
        self.gives(None, spoil_paper, guess, free_wish(2, 0))

    def test_moves_of_hand_0(self):
        self.gives(True, is_spoil_paper, slip_reader(2), free_wish(2, 0), [((0, 0), None, 0)])
        self.gives(False, is_spoil_paper, slip_reader(2), free_wish(2, 0), [((0, 0), (0, 0), 0)])
        self.gives(False, is_spoil_paper, slip_reader(2), free_wish(2, 1), [((0, 0), None, 0)])
        self.gives(True, is_spoil_paper, slip_reader(2), free_wish(2, 1), [((0, 0), (1, 0), 0)])
        reader = Reader(2, 1, [(0, 0, 0, 1), (0, 1, 0, 0)])
        self.gives(False, is_spoil_paper, reader, free_wish(2, 0), [((0, 0), None, 5)])
        self.gives(True, is_spoil_paper, reader, free_wish(2, 1), [((0, 0), (0, 0), 5)])

    def test_by_definition(self):
        found = {True: 0, False: 0}
        for reader, wish in games():
            told = self.checked(reader, wish) is not None
            found[told] += 1
            if wish_oracles.stand_in_board(reader, wish)[0] is not None:
                self.assertEqual(stand_in_winner(reader, wish), int(told))
        self.assertGreater(min(found.values()), 40)

    def test_beyond_600_places(self):
        for limit, spoilt in ((STAND_IN_600_LOST, True), (STAND_IN_601_LOST, True), (STAND_IN_601_WON, False)):
            self.assertEqual(self.checked(*game_at(limit)) is not None, spoilt)
        source = random.Random(26)
        reader = full_reader()
        for most in (2, 24):
            self.checked(reader, Wish(24, [source.randrange(2) for _ in range(24)],
                                      [wish_oracles.some_moves(source, 4, 24, most) for _ in range(24)]))

    def test_who_has_a_chooser(self):
        # Wishes that are all let are won in the stand-in, too.
        many = 0
        for reader in small_readers(80, 27):
            if play_oracles.letter_board(reader)[0] is None or not has_chooser(reader):
                continue
            for seed in range(3):
                wish = some_wish(random.Random(seed), reader.letters)
                if is_all_let(reader, wish):
                    self.gives(None, spoil_paper, reader, wish)
                    many += 1
        self.assertGreater(many, 10)

    def test_one_thing_otherwise(self):
        yes = no = 0
        for reader, wish in games()[::2]:
            paper = spoil_paper(reader, wish)
            if paper is None or len(paper) > 10:
                continue
            for value in changed(paper):
                fits = wish_oracles.is_spoil_paper(reader, wish, value)
                self.assertIs(is_spoil_paper(reader, wish, value), fits, (value, paper))
                yes, no = yes + fits, no + (not fits)
        self.assertGreater(yes, 100)
        self.assertGreater(no, 5000)

    def test_other_moves(self):
        source = random.Random(28)
        found = {True: 0, False: 0}
        for reader, wish in games()[:100]:
            for most in (1, 2, 4):
                value = [((place, room), source.choice(wish.moves()[place]) if wish.owners()[place] else None,
                          source.randrange(most)) for place in range(wish.many) for room in range(reader.rooms)]
                fits = wish_oracles.is_spoil_paper(reader, wish, value)
                self.assertIs(is_spoil_paper(reader, wish, value), fits)
                found[fits] += 1
        self.assertGreater(min(found.values()), 10)

    def test_any_value(self):
        for reader, wish in ((slip_reader(), Wish(1, [1], [[(0, 0)]])), (slip_reader(), ONE_WISH[0])):
            for value in junk():
                for told in (value, [value], [(value, (0, 0), 0)], [((0, 0), value, 0)], [((0, 0), (0, 0), value)],
                             [((0, 0), None, value)], [((0, value), None, 0)], [((value, 0), None, 0)],
                             [((0, 0), (value, 0), 0)], [((0, 0), (0, value), 0)], [((0, 0), None, 0), value]):
                    self.assertIs(is_spoil_paper(reader, wish, told), wish_oracles.is_spoil_paper(reader, wish, told), told)
