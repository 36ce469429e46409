"""Following step by step: who follows, following and leaving papers, and followed runs."""

import random

from tests import oracles, play_oracles, wish_oracles
from tests.play_oracles import GUESS, PARTS, doubtful_readers
from tests.tools import (WAYS_401, PromiseCase, changed, clean_reader, far_reader, full_reader, junk, last_reader,
                         round_reader, slip_reader, some_readers)
from tests.wish_limits import STEP_600_FOLLOWED, STEP_600_LEFT, STEP_601_LEFT, readers_at
from tests.wish_oracles import some_pairs
from tworivals.errors import InvalidPaper, InvalidReader, InvalidRun
from tworivals.plays import has_chooser
from tworivals.readers import Reader
from tworivals.runs import slips_of
from tworivals.steps import (followed_run, following_paper, follows, is_following_paper, is_leaving_paper, leaving_paper)
from tworivals.within import is_within

ONE = [Reader(1, 1, [(0, 0, 0, 0)])]
TOLD = (follows, following_paper, leaving_paper)
JUDGES = (is_following_paper, is_leaving_paper)
ANSWERS = [((0, 0), [(0, 0), (1, 1)], 0)]


def lone_reader():
    """By 0 it goes cleanly, by 1 it slips."""
    return Reader(2, 1, [(0, 0, 0, 0), (0, 1, 0, 1)])


def told_pairs():
    """Pairs of small readers, some with others that are made of them."""
    pairs = some_pairs(150, 41)
    for reader in some_readers(40, 42) + doubtful_readers(40, 42):
        fewer = [way for way in reader.ways() if way == reader.way(reader.ways_by(*way[:2])[0])]
        cut = Reader(reader.letters, reader.rooms, fewer)
        pairs += [(reader, reader), (cut, reader), (reader, cut)]
    return pairs


def some_run(source, reader):
    """A run of the reader as a tuple of lists, by going about."""
    gone, rooms, room = [], [], 0
    while room not in rooms or source.randrange(3):
        rooms.append(room)
        gone.append(source.choice([at for at, way in enumerate(reader.ways()) if way[0] == room]))
        room = reader.ways()[gone[-1]][2]
    at = source.choice([at for at, one in enumerate(rooms) if one == room])
    return gone[:at], gone[at:]


class TestFollows(PromiseCase):

    def checked(self, reader, other):
        """All that is told of both fits together; who wins the step play, None without it."""
        board, names = wish_oracles.step_board(reader, other)
        if board is None:
            for function in TOLD:
                self.too_many("places", 600, function, reader, other)
            return None
        winner = wish_oracles.winner((board, names), ("foe", 0, 0, 0))
        self.gives(winner == 0, follows, reader, other)
        told, judge, rule = ((following_paper, is_following_paper, wish_oracles.is_following_paper),
                             (leaving_paper, is_leaving_paper, wish_oracles.is_leaving_paper))[winner]
        paper = self.ask(told, reader, other, exact=False)
        self.assertIs(type(paper), list)
        self.assertTrue(rule(reader, other, paper), paper)
        self.gives(True, judge, reader, other, paper)
        self.gives(None, (leaving_paper, following_paper)[winner], reader, other)
        self.gives(False, JUDGES[1 - winner], reader, other, paper)
        return winner

    def test_examples(self):
        self.assertEqual(self.checked(lone_reader(), clean_reader(2)), 0)
        self.assertEqual(self.checked(clean_reader(2), lone_reader()), 1)
        self.assertEqual(self.checked(lone_reader(), lone_reader()), 0)
        self.assertEqual(self.checked(slip_reader(2), lone_reader()), 0)
        self.assertEqual(self.checked(last_reader(), last_reader()), 0)
        for letters in (1, 2, 3, 4):
            self.assertEqual(self.checked(clean_reader(letters), slip_reader(letters)), 1)
            self.assertEqual(self.checked(slip_reader(letters), clean_reader(letters)), 0)

    def test_all_rows_but_not_followed(self):
        # It lets all rows by, but must take the way ahead of what comes next.
        guess = Reader(*GUESS)
        self.assertTrue(is_within(clean_reader(2), guess))
        self.assertEqual(self.checked(clean_reader(2), guess), 1)
        self.assertEqual(self.checked(guess, guess), 0)

    def test_seen_ahead(self):
        # The other one goes by what the reader does: of two rooms it takes that where the reader is.
        parts = Reader(*PARTS)
        self.assertEqual(self.checked(parts, parts), 0)
        single = Reader(2, 2, [(0, 0, 1, 1), (0, 1, 1, 1), (1, 0, 1, 0), (1, 1, 1, 1)])
        self.assertEqual(self.checked(single, parts), 0)
        self.assertEqual(self.checked(parts, single), 1)

    def test_by_lifting(self):
        found = {0: 0, 1: 0, None: 0}
        for reader, other in told_pairs():
            winner = self.checked(reader, other)
            found[winner] += 1
            if winner is None or len(oracles.coming_standings(other)) > 400:
                continue
            if winner == 0:
                self.gives(True, is_within, reader, other)
            elif play_oracles.letter_board(other)[0] is not None and has_chooser(other):
                self.gives(False, is_within, reader, other)
        self.assertGreater(min(found[0], found[1]), 60)

    def test_600_places(self):
        for limit, winner in ((STEP_600_FOLLOWED, 0), (STEP_600_LEFT, 1)):
            reader, other = readers_at(limit)
            self.assertEqual(wish_oracles.step_board(reader, other)[0].many, 600)
            self.assertEqual(self.checked(reader, other), winner)
        reader, other = readers_at(STEP_601_LEFT)
        self.assertEqual(len(wish_oracles.step_board(reader, other)[1]), 601)
        self.assertIsNone(self.checked(reader, other))
        self.assertIsNone(self.checked(full_reader(), full_reader()))

    def test_many_standings(self):
        # They don't matter here.
        reader = Reader(3, 7, WAYS_401)
        for other in (clean_reader(3), slip_reader(3)):
            self.assertIsNotNone(self.checked(reader, other))
            self.assertIsNotNone(self.checked(other, reader))
        self.assertIsNotNone(self.checked(clean_reader(3), far_reader()))

    def test_wrong(self):
        for function in TOLD + JUDGES + (followed_run,):
            more = [None] * (0 if function in TOLD else 2 if function is followed_run else 1)
            self.refuses_junk(InvalidReader, function, None, None, *more, at=0, fine=ONE)
            self.refuses_junk(InvalidReader, function, slip_reader(2), None, *more, at=1, fine=ONE)
            for letters in (1, 2, 3):
                self.unlike_letters(function, clean_reader(letters), slip_reader(letters + 1), *more)
                self.unlike_letters(function, full_reader(), slip_reader(letters), *more)


class TestPapers(PromiseCase):

    def test_following(self):
        lone, every = lone_reader(), clean_reader(2)
        for value in (ANSWERS, tuple(ANSWERS), [((0, 0), ((0, 0), (1, 1)), 7)]):
            self.gives(True, is_following_paper, lone, every, value)
        for value in ([], ANSWERS * 2, [((0, 0), [(1, 1), (0, 0)], 0)], [((0, 0), [(0, 0)], 0)], [((0, 0), [(0, 1), (1, 0)], 0)],
                      [((0, 0), [(0, 0), (1, 1), (1, 1)], 0)], [((0, 0), [(0, 0), (1, 2)], 0)], None, [list(ANSWERS[0])],
                      [((0, 0), [[0, 0], (1, 1)], 0)], [((0, 0), [(0, 0), (1, 1)], -1)], [((0, 1), [(0, 0), (1, 1)], 0)],
                      [((0, 0), {0: 0, 1: 1}, 0)], [((0, 0), [(0, False), (1, 1)], 0)], [((0, 0), [(0, 0), (True, 1)], 0)]):
            self.assertIs(wish_oracles.is_following_paper(lone, every, value), False)
            self.gives(False, is_following_paper, lone, every, value)

    def test_numbers_of_following(self):
        # From room 0 the reader goes cleanly to room 1, and round there by slips; the other one slips at first.
        reader = Reader(1, 2, [(0, 0, 1, 0), (1, 0, 1, 1)])
        other = Reader(1, 2, [(0, 0, 1, 1), (1, 0, 1, 1)])
        for numbers, fits in (((1, 0), True), ((0, 0), False), ((5, 4), True), ((5, 5), False), ((0, 3), False)):
            value = [((0, 0), [(0, 0)], numbers[0]), ((1, 1), [(1, 1)], numbers[1])]
            self.gives(fits, is_following_paper, reader, other, value)
        clean = Reader(1, 2, [(0, 0, 1, 0), (1, 0, 1, 0)])
        for numbers, fits in (((1, 0), True), ((0, 0), True), ((0, 1), False)):
            value = [((0, 0), [(0, 0)], numbers[0]), ((1, 1), [(1, 1)], numbers[1])]
            self.gives(fits, is_following_paper, reader, clean, value)

    def test_leaving(self):
        lone, every = lone_reader(), clean_reader(2)
        self.gives(True, is_leaving_paper, every, lone, [((0, 0), 1, (0, 0))])
        self.gives(True, is_leaving_paper, every, lone, (((0, 0), 1, (3, 9)),))
        for value in ([((0, 0), 0, (0, 0))], [((0, 0), 2, (0, 0))], [((0, 0), 1, (0,))], [((0, 0), 1, [0, 0])], [],
                      [((0, 0), 1, (0, 0))] * 2, [((0, 0), True, (0, 0))], [((0, 0), 1, (0, -1))], None, [((0, 0), 1, 0)]):
            self.assertIs(wish_oracles.is_leaving_paper(every, lone, value), False)
            self.gives(False, is_leaving_paper, every, lone, value)

    def test_pairs_of_leaving(self):
        # The reader slips at first, then goes cleanly for ever; the other one goes cleanly, and then slips for ever.
        reader = Reader(1, 3, [(0, 0, 1, 1), (1, 0, 2, 0), (2, 0, 2, 0)])
        other = Reader(1, 3, [(0, 0, 1, 0), (1, 0, 2, 0), (2, 0, 2, 1)])
        for pairs, fits in ((((1, 0), (0, 1), (0, 0)), True), (((0, 0), (0, 1), (0, 0)), False), (((1, 0), (1, 1), (0, 0)), False),
                            (((1, 0), (0, 0), (0, 0)), False), (((2, 0), (1, 0), (0, 9)), True), (((1, 0), (0, 1), (0, 1)), False),
                            (((1, 0), (0, 2), (0, 1)), True), (((2, 0), (0, 2), (1, 1)), False)):
            value = [((at, at), at, pair) for at, pair in enumerate(pairs)]
            self.assertIs(wish_oracles.is_leaving_paper(reader, other, value), fits)
            self.gives(fits, is_leaving_paper, reader, other, value)

    def by_definition(self, told, judge, rule):
        yes = no = 0
        for reader, other in told_pairs()[::2]:
            if wish_oracles.step_board(reader, other)[0] is None:
                continue
            paper = told(reader, other)
            if paper is None or len(paper) > 8:
                continue
            for value in changed(paper):
                fits = rule(reader, other, value)
                self.assertIs(judge(reader, other, value), fits, (value, paper))
                yes, no = yes + fits, no + (not fits)
        self.assertGreater(yes, 100)
        self.assertGreater(no, 4000)

    def test_following_papers_with_one_thing_otherwise(self):
        self.by_definition(following_paper, is_following_paper, wish_oracles.is_following_paper)

    def test_leaving_papers_with_one_thing_otherwise(self):
        self.by_definition(leaving_paper, is_leaving_paper, wish_oracles.is_leaving_paper)

    def test_at_random(self):
        source = random.Random(43)
        found = {True: 0, False: 0}
        for reader, other in some_pairs(200, 44):
            stands = [(room, far) for room in range(reader.rooms) for far in range(other.rooms)]
            for most in (1, 3):
                following = [((room, far), [(way, source.choice(other.ways_by(far, letter)))
                                            for letter in range(reader.letters) for way in reader.ways_by(room, letter)],
                              source.randrange(most)) for room, far in stands]
                leaving = [((room, far), source.choice(reader.ways_by(room, source.randrange(reader.letters))),
                            (source.randrange(most), source.randrange(most))) for room, far in stands]
                for judge, rule, value in ((is_following_paper, wish_oracles.is_following_paper, following),
                                           (is_leaving_paper, wish_oracles.is_leaving_paper, leaving)):
                    fits = rule(reader, other, value)
                    self.assertIs(judge(reader, other, value), fits)
                    found[fits] += 1
        self.assertGreater(min(found.values()), 30)

    def test_any_value(self):
        lone, every = lone_reader(), clean_reader(2)
        for value in junk():
            for told in (value, [value], [(value, [(0, 0), (1, 1)], 0)], [((0, 0), value, 0)], [((0, 0), [(0, 0), value], 0)],
                         [((0, 0), [(0, value), (1, 1)], 0)], [((0, 0), [(value, 0), (1, 1)], 0)], ANSWERS + [value],
                         [((0, 0), [(0, 0), (1, 1)], value)], [((value, 0), 1, (0, 0))], [((0, value), 1, (0, 0))],
                         [((0, 0), value, (0, 0))], [((0, 0), 1, value)], [((0, 0), 1, (value, 0))], [((0, 0), 1, (0, value))]):
                self.assertIs(is_following_paper(lone, every, told), wish_oracles.is_following_paper(lone, every, told), told)
                self.assertIs(is_leaving_paper(every, lone, told), wish_oracles.is_leaving_paper(every, lone, told), told)

    def test_without_too_many(self):
        full = full_reader()
        for value in (None, [], ANSWERS, [((0, 0), 0, (0, 0))]):
            self.gives(False, is_following_paper, full, full, value)
            self.gives(False, is_leaving_paper, full, full, value)
        # Who takes the reader's own ways follows it.
        own = [((room, room), [(way, way) for letter in range(4) for way in full.ways_by(room, letter)], 12)
               for room in range(12)]
        self.gives(True, is_following_paper, full, full, own)


class TestFollowedRuns(PromiseCase):

    def checked(self, reader, other, paper, run):
        told = wish_oracles.followed(reader, other, paper, run)
        self.gives(told, followed_run, reader, other, paper, run)
        # The letters are those of the run, and the other one slips finitely often if the reader does.
        letters = [[reader.way(way)[1] for way in part] for part in run]
        far = [[other.way(way)[1] for way in part] for part in told]
        rounds = (len(far[0]) + len(far[1])) // len(letters[1]) + 1
        self.assertEqual(far[0] + far[1], (letters[0] + letters[1] * rounds)[:len(far[0]) + len(far[1])])
        if slips_of(reader, run)[1] == 0:
            self.assertEqual(sum(other.way(way)[3] for way in told[1]), 0)
        return told

    def test_lone(self):
        lone, every = lone_reader(), clean_reader(2)
        self.gives(([1], [0, 0]), followed_run, lone, every, ANSWERS, ([1], [0, 0]))
        self.gives(([], [0]), followed_run, lone, every, ANSWERS, ([], [0]))
        self.gives(([], [0]), followed_run, lone, every, tuple(ANSWERS), ((), (0,)))
        self.gives(([1] * 520, [0] * 480), followed_run, lone, every, ANSWERS, ([1] * 520, [0] * 480))

    def test_rooms_come_again(self):
        # The other one goes through rooms round; the reader stays.
        for rooms in (1, 2, 5, 12):
            paper = [((0, far), [(0, far)], 0) for far in range(rooms)]
            self.gives(([], list(range(rooms))), followed_run, clean_reader(), round_reader(rooms), paper, ([], [0]))
            self.gives(([0], [at % rooms for at in range(1, rooms + 1)]), followed_run, clean_reader(), round_reader(rooms),
                       paper, ([0], [0]))
        # Two rooms ahead of a ring of three.
        other = Reader(1, 5, [(0, 0, 1, 1), (1, 0, 2, 1), (2, 0, 3, 0), (3, 0, 4, 0), (4, 0, 2, 0)])
        paper = [((0, far), [(0, far)], max(0, 2 - far)) for far in range(5)]
        self.gives(([0, 1], [2, 3, 4]), followed_run, clean_reader(), other, paper, ([], [0]))
        self.gives(([0, 1], [2, 3, 4, 2, 3, 4]), followed_run, clean_reader(), other, paper, ([], [0, 0]))
        # Behind one way, and then behind four more, it stands in rooms 1, 2, 3, 4, 2.
        self.gives(([0, 1, 2, 3, 4], [2, 3, 4, 2, 3, 4, 2, 3, 4, 2, 3, 4]), followed_run, clean_reader(), other, paper,
                   ([0], [0] * 4))

    def test_by_definition(self):
        source = random.Random(45)
        longer = 0
        for reader, other in told_pairs():
            if wish_oracles.step_board(reader, other)[0] is None or not follows(reader, other):
                continue
            paper = following_paper(reader, other)
            for _ in range(4):
                run = some_run(source, reader)
                if max(len(run[0]), len(run[1])) <= 100:
                    told = self.checked(reader, other, paper, run)
                    longer += len(told[0]) > len(run[0])
        self.assertGreater(longer, 20)

    def test_long_runs(self):
        reader, other = clean_reader(), round_reader(11)
        paper = [((0, far), [(0, far)], 0) for far in range(11)]
        told = self.checked(reader, other, paper, ([0] * 520, [0] * 480))
        self.assertEqual((len(told[0]), len(told[1])), (520, 11 * 480))

    def test_wrong(self):
        lone, every = lone_reader(), clean_reader(2)
        self.refuses_junk(InvalidPaper, followed_run, lone, every, None, None, at=2)
        for value in changed(ANSWERS):
            if not wish_oracles.is_following_paper(lone, every, value):
                self.refuses(InvalidPaper, value, followed_run, lone, every, value, None)
        self.refuses(InvalidPaper, [((0, 0), 1, (0, 0))], followed_run, every, lone, [((0, 0), 1, (0, 0))], None)
        self.refuses_junk(InvalidRun, followed_run, lone, every, ANSWERS, None, at=3, fine=[([0], [0]), ((0,), [0]), ([0], (0,))])
        for run in (([], []), ([0], []), ([2], [0]), ([], [2]), [[], [0]], ([0] * 521, [0]), ([], [0] * 481), ([], [True]),
                    ([], [0], []), ([], [-1]), ([None], [0])):
            self.refuses(InvalidRun, run, followed_run, lone, every, ANSWERS, run)
        two = Reader(1, 2, [(0, 0, 1, 0), (1, 0, 0, 0)])
        paper = [((room, 0), [(room, 0)], 0) for room in (0, 1)]
        self.gives(([], [0, 0]), followed_run, two, clean_reader(), paper, ([], [0, 1]))
        for run in (([], [0]), ([], [1, 0]), ([0], [0, 1]), ([1], [0, 1]), ([0, 0], [0, 1])):
            self.refuses(InvalidRun, run, followed_run, two, clean_reader(), paper, run)

    def test_not_too_many(self):
        full = full_reader()
        own = [((room, room), [(way, way) for letter in range(4) for way in full.ways_by(room, letter)], 12)
               for room in range(12)]
        run = some_run(random.Random(46), full)
        self.gives(run, followed_run, full, full, own, run)
