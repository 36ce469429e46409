"""Claims, their contraries, whether they are true, and papers of them."""

import random

from tests import board_oracles, oracles, play_oracles, wish_oracles
from tests.limits import (LETTER_600_LOST, LETTER_600_WON, LETTER_601_WON, RIVALS_1_600, RIVALS_1_601, RIVALS_3_600,
                          RIVALS_3_601, reader_at)
from tests.play_oracles import GUESS, LONE, ONCE, PARTS, doubtful_readers, small_readers
from tests.tools import (WAYS_401, PromiseCase, changed, clean_reader, full_reader, junk, last_reader, round_reader,
                         slip_reader, some_rows)
from tests.test_within import counting_reader, word_reader
from tests.wish_limits import STEP_600_FOLLOWED, STEP_601_LEFT, readers_at
from tworivals.boards import Board
from tworivals.claims import contrary, is_claim, is_paper_of, is_true, paper_of, words
from tworivals.errors import InvalidClaim
from tworivals.foes import foe_of
from tworivals.measures import win_paper
from tworivals.plays import foe_paper
from tworivals.readers import Reader
from tworivals.rivals import rivals_paper
from tworivals.runs import clean_run

FIRST = ((0,), (0,))
PAIRS = [("let", "barred"), ("within", "parted"), ("chooser", "none"), ("ahead", "beaten"), ("won", "lost"),
         ("follows", "leaves")]
OTHER = {one: two for pair in PAIRS for one, two in (pair, pair[::-1])}


def turn_board():
    return Board([0, 1], [1, 2], [[0, 1], [0]])


def four_board():
    return Board([0, 1, 0, 1], [0, 1, 2, 1], [[1, 2], [0, 2], [0], [3]])


def rivals_told(reader, many):
    """Whether the first hand wins by lifting, None where there are too many places."""
    told = play_oracles.rival_board(reader, many)
    return None if told[0] is None else wish_oracles.winner(told, ("foe", (0, (0,) * many, 0), 0)) == 0


def truth(claim):
    """Whether the claim with a first word is true, told another way; None where there is too much of it."""
    word, thing, *more = claim
    if word == "let":
        return oracles.is_let(thing, *more)
    if word == "within":
        return None if len(oracles.coming_standings(more[0])) > 400 else oracles.within_paper(thing, *more) is not None
    if word == "chooser":
        return None if play_oracles.letter_board(thing)[0] is None else play_oracles.has_chooser(thing)
    if word == "ahead":
        return rivals_told(thing, *more)
    if word == "won":
        return board_oracles.winners_by_lifting(thing)[more[0]] == 0
    board = wish_oracles.step_board(thing, *more)
    return None if board[0] is None else wish_oracles.winner(board, ("foe", 0, 0, 0)) == 0


def is_paper(claim, value):
    """Whether the value is a paper of the claim, told another way."""
    word, thing, *more = claim
    if word == "let":
        return oracles.is_run_along(thing, *more, value) and not any(thing.way(way)[3] for way in value[1])
    if word == "barred":
        return oracles.are_heights(thing, *more, value)
    if word == "within":
        return oracles.is_within_paper(thing, *more, value)
    if word == "parted":
        return is_told_row(thing.letters, value) and oracles.parts(thing, *more, value)
    if word == "chooser":
        return play_oracles.is_chooser_paper(thing, value)
    if word == "none":
        return play_oracles.is_foe_paper(thing, value) or play_oracles.is_foe(thing, value)
    if word in ("ahead", "beaten"):
        board, names = play_oracles.rival_board(thing, *more)
        return type(value) is tuple and len(value) == 2 and type(value[0]) is int \
            and value[0] == ("ahead", "beaten").index(word) \
            and board_oracles.is_win_paper(board, value[0], value[1]) \
            and names.index(("foe", (0, (0,) * more[0], 0), 0)) in value[1][0]
    if word in ("won", "lost"):
        return board_oracles.is_win_paper(thing, ("won", "lost").index(word), value) and more[0] in value[0]
    return {"follows": wish_oracles.is_following_paper, "leaves": wish_oracles.is_leaving_paper}[word](thing, *more, value)


def is_told_row(letters, value):
    return type(value) is tuple and len(value) == 2 and all(
        type(part) is tuple and len(part) <= 40 and all(oracles.plain_count(letter, letters) for letter in part)
        for part in value) and value[1] != ()


def is_told_claim(value):
    """Whether the value is a claim, told another way."""
    if type(value) is not tuple or not value or type(value[0]) is not str or value[0] not in OTHER:
        return False
    kinds = {"let": (Reader, tuple), "within": (Reader, Reader), "chooser": (Reader,), "ahead": (Reader, int),
             "won": (Board, int), "follows": (Reader, Reader)}
    word = value[0] if value[0] in kinds else OTHER[value[0]]
    if tuple(map(type, value[1:])) != kinds[word]:
        return False
    return {"let": lambda reader, row: is_told_row(reader.letters, row), "chooser": lambda reader: True,
            "within": lambda reader, other: reader.letters == other.letters, "ahead": lambda reader, many: many in (1, 2, 3),
            "follows": lambda reader, other: reader.letters == other.letters,
            "won": lambda board, place: place in range(board.many)}[word](*value[1:])


def some_claims(seed=81):
    """Claims with the first words of all sorts, the same each time."""
    source = random.Random(seed)
    claims = []
    readers = small_readers(30, seed) + doubtful_readers(30, seed)
    for reader in readers:
        claims += [("let", reader, row) for row in some_rows(reader.letters, 2, reader.many)]
        claims += [("chooser", reader), ("ahead", reader, source.randint(1, 2))]
    for reader, other in wish_oracles.some_pairs(50, seed):
        claims += [("within", reader, other), ("follows", reader, other), ("follows", other, other)]
    for board in board_oracles.some_boards(60, seed):
        claims.append(("won", board, source.randrange(board.many)))
    return claims


class TestClaims(PromiseCase):

    def test_words(self):
        self.gives(PAIRS, words)
        words().pop()
        self.gives(PAIRS, words)

    def test_claims(self):
        last, board, row = last_reader(), turn_board(), ((), (0, 1))
        good = [("let", last, row), ("barred", last, ((0,) * 40, (1,) * 40)), ("within", last, clean_reader(2)),
                ("parted", last, last), ("chooser", last), ("none", full_reader()), ("ahead", last, 1), ("beaten", last, 3),
                ("won", board, 0), ("lost", board, 1), ("follows", last, clean_reader(2)), ("leaves", last, last),
                ("within", full_reader(), full_reader()), ("ahead", full_reader(), 3)]
        for claim in good:
            self.gives(True, is_claim, claim)
            self.gives((OTHER[claim[0]], *claim[1:]), contrary, claim)
            self.gives(claim, contrary, contrary(claim))
        wrong = [("let", last, ((), (2,))), ("let", last, [(), (0,)]), ("let", last), ("let", row, last), ("let", last, row, row),
                 ("let", last, ((0,) * 41, (1,))), ("within", last, clean_reader(1)), ("within", last), ("within", last, row),
                 ("parted", last, last, last), ("chooser",), ("chooser", last, last), ("none", board), ("ahead", last, 0),
                 ("ahead", last, 4), ("ahead", last, True), ("beaten", last), ("ahead", last, "1"), ("won", board, 2),
                 ("won", board, -1), ("won", board, False), ("lost", board), ("won", last, 0), ("lost", 0, board),
                 ("follows", last, clean_reader(3)), ("leaves", last), ["let", last, row], ("Let", last, row), (last, "let", row),
                 ("", last, row), (None, last, row), (["let"], last, row), ("let", None, row), ("ahead", 1, last), (),
                 ("let barred", last, row), ("Within", last, last), ("", last, last), (None, last, last), ("reader", last, last), (last, last, last),
                 ("let", last, last), ("chooser", board), ("won", last, last), ("ahead", last, last), ("chooser ", last), ("won", board, 10 ** 29), ("ahead", last, 10 ** 29)]
        self.assertTrue(all(is_told_claim(value) for value in good))
        for value in wrong:
            self.assertFalse(is_told_claim(value))
            self.gives(False, is_claim, value)
            for function, more in ((contrary, []), (is_true, []), (paper_of, []), (is_paper_of, [None])):
                self.refuses(InvalidClaim, value, function, value, *more)

    def test_any_value(self):
        for value in junk():
            for told in (value, ("let", value), ("let", value, ((), (0,))), ("let", clean_reader(), value), (value, clean_reader()),
                         ("won", turn_board(), value), ("ahead", clean_reader(), value), ("within", clean_reader(), value)):
                self.assertIs(is_claim(told), is_told_claim(told), told)

    def test_wrong(self):
        for function, more in ((contrary, []), (is_true, []), (paper_of, []), (is_paper_of, [None])):
            self.refuses_junk(InvalidClaim, function, None, *more, at=0)


class TestTruth(PromiseCase):

    def too_much(self, claim):
        """What TooMany tells of the claim."""
        word, thing, *more = claim
        if word == "within" or word == "chooser" and len(oracles.coming_standings(thing)) > 400:
            return "standings", 400
        return "places", 600

    def checked(self, claim):
        """All that is told of the claim and its contrary fits together."""
        other = (OTHER[claim[0]], *claim[1:])
        told = truth(claim)
        if told is None:
            for one in (claim, other):
                self.too_many(*self.too_much(claim), is_true, one)
                self.too_many(*self.too_much(claim), paper_of, one)
            return None
        self.gives(told, is_true, claim)
        self.gives(not told, is_true, other)
        good, bad = (claim, other) if told else (other, claim)
        self.gives(None, paper_of, bad)
        if good[0] == "parted" and not oracles.is_soon_parted(*good[1:]):
            self.too_many("letters", 40, paper_of, good)
            return told
        paper = self.ask(paper_of, good, exact=False)
        self.assertIsNotNone(paper)
        self.assertTrue(is_paper(good, paper), (good[0], paper))
        self.gives(True, is_paper_of, good, paper)
        self.gives(False, is_paper_of, bad, paper)
        return told

    def test_of_each_word(self):
        found = {}
        for claim in some_claims():
            key = claim[0], self.checked(claim)
            found[key] = found.get(key, 0) + 1
        for word, _ in PAIRS:
            self.assertGreater(min(found[(word, True)], found[(word, False)]), 8, word)

    def test_examples(self):
        slip, gate = slip_reader(), clean_reader()
        for claim, told in ((("let", slip, ((), (0,))), False), (("barred", slip, ((), (0,))), True), (("within", gate, slip), False),
                            (("parted", gate, slip), True), (("within", slip, gate), True), (("follows", slip, gate), True),
                            (("leaves", gate, slip), True), (("won", turn_board(), 0), True), (("lost", turn_board(), 1), False),
                            (("lost", four_board(), 3), True), (("chooser", gate), True), (("none", Reader(*GUESS)), True),
                            (("ahead", Reader(*LONE), 1), True), (("beaten", Reader(*LONE), 2), True),
                            (("beaten", Reader(*ONCE), 1), True), (("ahead", last_reader(), 2), True),
                            (("none", Reader(*PARTS)), True)):
            self.gives(told, is_true, claim)
            self.gives(not told, is_true, (OTHER[claim[0]], *claim[1:]))

    def test_against_three_rivals(self):
        for reader in (clean_reader(), slip_reader(), round_reader(2, [1])):
            self.checked(("ahead", reader, 3))

    def test_at_the_limits(self):
        for claim, told in ((("chooser", reader_at(LETTER_600_WON)), True), (("none", reader_at(LETTER_600_LOST)), True),
                            (("follows", *readers_at(STEP_600_FOLLOWED)), True)):
            self.gives(told, is_true, claim)
            self.gives(True, is_paper_of, claim, paper_of(claim))
            self.gives(False, is_true, contrary(claim))
        for told, many in ((RIVALS_1_600, 1), (RIVALS_3_600, 3)):
            self.checked(("ahead", reader_at(told), many))
        for told, many in ((RIVALS_1_601, 1), (RIVALS_3_601, 3)):
            for word in ("ahead", "beaten"):
                claim = (word, reader_at(told), many)
                for function, more in ((is_true, []), (paper_of, []), (is_paper_of, [None]), (is_paper_of, [(0, ([0], [], [0]))])):
                    self.too_many("places", 600, function, claim, *more)
        wide = Reader(3, 7, WAYS_401)
        for word in ("within", "parted"):
            for function in (is_true, paper_of):
                self.too_many("standings", 400, function, (word, clean_reader(3), wide))
            self.gives(False, is_paper_of, (word, clean_reader(3), wide), None)
        for word in ("chooser", "none"):
            for function in (is_true, paper_of):
                self.too_many("standings", 400, function, (word, wide))
                self.too_many("places", 600, function, (word, reader_at(LETTER_601_WON)))
            self.gives(False, is_paper_of, (word, wide), None)
        for word in ("follows", "leaves"):
            for function in (is_true, paper_of):
                self.too_many("places", 600, function, (word, *readers_at(STEP_601_LEFT)))
            self.gives(False, is_paper_of, (word, *readers_at(STEP_601_LEFT)), None)
        # The standings of the first one don't matter.
        self.gives(True, is_true, ("within", wide, clean_reader(3)))

    def test_letters(self):
        # Of what parts them a ring has rooms times many letters, perhaps more than a row may have; true it is all the same.
        for rooms, many in ((8, 5), (10, 4), (6, 7), (7, 6), (12, 4)):
            reader, other = word_reader(rooms), counting_reader(many)
            self.assertEqual(oracles.is_soon_parted(reader, other), rooms * many <= 40)
            self.assertIs(self.checked(("within", reader, other)), False)
            self.gives(True, is_true, ("parted", reader, other))
            if rooms * many > 40:
                self.too_many("letters", 40, paper_of, ("parted", reader, other))
                self.gives(None, paper_of, ("within", reader, other))


class TestPapers(PromiseCase):

    def test_one_thing_otherwise(self):
        found = {}
        short = [("ahead", Reader(1, 1, [(0, 0, 0, slip) for slip in slips]), many) for slips in ((0,), (1,), (0, 1))
                 for many in (1, 2)]
        short += [("ahead", Reader(1, 3, [(0, 0, 1, 0), (0, 0, 2, 0), (1, 0, 1, 1), (2, 0, 2, 0)]), 1),
                  ("ahead", Reader(*ONCE), 1)]
        for claim in some_claims(82) + short:
            if truth(claim) is None:
                continue
            good = claim if truth(claim) else (OTHER[claim[0]], *claim[1:])
            if good[0] == "parted" and not oracles.is_soon_parted(*good[1:]):
                continue
            paper = paper_of(good)
            if len(str(paper)) > (600 if claim in short else 150):
                continue
            for value in changed(paper):
                for one in (good, (OTHER[good[0]], *good[1:])):
                    fits = is_paper(one, value)
                    self.assertIs(is_paper_of(one, value), fits, (one, value))
                    found[(one[0], fits)] = found.get((one[0], fits), 0) + 1
        for word in OTHER:
            self.assertGreater(found.get((word, False), 0), 50, word)
            self.assertGreater(found.get((word, True), 0), 3, word)

    def test_foes_and_papers_of_them(self):
        for told in (GUESS, ONCE, PARTS, LONE):
            reader = Reader(*told)
            foe, paper = foe_of(reader), foe_paper(reader)
            for value in (foe, paper, tuple(foe), tuple(paper)):
                self.gives(True, is_paper_of, ("none", reader), value)
                self.gives(False, is_paper_of, ("chooser", reader), value)
            for value in (foe[1:], paper[1:], foe[:1] + paper[1:], [], None):
                self.gives(False, is_paper_of, ("none", reader), value)

    def test_runs(self):
        last, row = last_reader(), ((0,), (1,))
        self.gives(True, is_paper_of, ("let", last, row), clean_run(last, row))
        self.gives(True, is_paper_of, ("let", last, row), ([0, 3], [7, 7]))
        # A run along it that slips for ever; a run along another row.
        self.gives(False, is_paper_of, ("let", last, row), ([0], [2]))
        self.gives(False, is_paper_of, ("let", last, row), ([], [0]))
        self.gives(False, is_paper_of, ("barred", last, row), ([0, 3], [7]))

    def test_rows_that_part(self):
        gate, slip = clean_reader(), slip_reader()
        for row in (((), (0,)), ((0,) * 40, (0,) * 40), ((), (0, 0))):
            self.gives(True, is_paper_of, ("parted", gate, slip), row)
            self.gives(False, is_paper_of, ("parted", slip, gate), row)
            self.gives(False, is_paper_of, ("parted", gate, gate), row)
        for row in (((), ()), ((), (1,)), [(), (0,)], ((), [0]), None):
            self.gives(False, is_paper_of, ("parted", gate, slip), row)

    def test_hands_and_places(self):
        board = four_board()
        first, second = win_paper(board, 0), win_paper(board, 1)
        self.assertEqual((first[0], second[0]), ([0, 1, 2], [3]))
        for place in range(4):
            self.gives(place < 3, is_paper_of, ("won", board, place), first)
            self.gives(place == 3, is_paper_of, ("lost", board, place), second)
            self.gives(False, is_paper_of, ("lost", board, place), first)
            self.gives(False, is_paper_of, ("won", board, place), second)
        # A lot that has not all the places that are won.
        self.gives(True, is_paper_of, ("won", board, 0), ([0, 2], [(0, 2), (2, 0)], [0, 0]))
        self.gives(False, is_paper_of, ("won", board, 1), ([0, 2], [(0, 2), (2, 0)], [0, 0]))
        once = Reader(*ONCE)
        paper = rivals_paper(once, 1)
        self.gives(True, is_paper_of, ("beaten", once, 1), paper)
        self.gives(False, is_paper_of, ("ahead", once, 1), paper)
        self.gives(False, is_paper_of, ("beaten", once, 1), (0, paper[1]))
        self.gives(False, is_paper_of, ("beaten", once, 1), paper[1])
        self.gives(False, is_paper_of, ("beaten", once, 2), paper)

    def test_any_value(self):
        for claim in (("let", clean_reader(), ((), (0,))), ("within", clean_reader(), slip_reader()), ("chooser", clean_reader()),
                      ("ahead", clean_reader(), 1), ("won", turn_board(), 0), ("follows", clean_reader(), slip_reader())):
            for one in (claim, (OTHER[claim[0]], *claim[1:])):
                for value in junk():
                    for told in (value, [value], (value, value), (0, value), (1, value)):
                        self.assertIs(is_paper_of(one, told), is_paper(one, told), (one[0], told))

    def test_told_papers_are_new(self):
        for claim in some_claims(83)[:60]:
            if truth(claim) and isinstance(paper_of(claim), list):
                paper_of(claim).clear()
                self.gives(True, is_paper_of, claim, paper_of(claim))
