"""The desk: what is kept and noted, deeds and states, refusals, papers, trials, copies and lines."""

import random

from tests.desk_model import PlainDesk
from tests.limits import RIVALS_1_601, reader_at
from tests.play_oracles import GUESS, LONE, ONCE
from tests.tools import PromiseCase, WAYS_401, changed, clean_reader, full_reader, junk, last_reader, slip_reader
from tworivals import errors
from tworivals.claims import paper_of
from tworivals.desk import Desk, Trial, tried
from tworivals.errors import (CommandFailed, InvalidClaim, InvalidCommand, InvalidDeeds, InvalidMany, InvalidNumbers,
                              InvalidOrder, InvalidPaper, InvalidWay, InvalidWays, InvalidWord, LabelTaken, NameTaken,
                              NothingToRedo, NothingToUndo, TooMany, UnknownLabel, UnknownName, UnlikeLetters)
from tworivals.readers import Reader
from tworivals.texts import reader_text

NEAR = "letters 2; rooms 1; way 0 0 0 clean; way 0 1 0 slip"
FAR = "letters 2; rooms 1; way 0 0 0 slip; way 0 1 0 clean"
GATE = "letters 1; rooms 1; way 0 0 0 clean"
BLOCK = "letters 1; rooms 1; way 0 0 0 slip"
START = ["reader p " + NEAR, "reader q " + FAR, "reader g " + GATE, "reader s " + BLOCK, "row r -/0,1", "row z 1,1/0",
         "claim k let p z", "claim m chooser p", "claim n within g s"]


def lines_of(reader):
    return reader_text(reader)[:-1].replace("\n", "; ")


def started(*more):
    desk = Desk()
    desk.do_all(*START, *more)
    return desk


def shot(desk):
    """All that can be seen of the desk."""
    return (desk.names, desk.labels, len(desk), desk.lines(), desk.do("states"), [desk.do(f"show {name}") for name in desk.names],
            [desk.do(f"claimed {label}") for label in desk.labels], [desk.fits(label) for label in desk.labels])


def told_error(error):
    """The class of an error, and what it tells."""
    return type(error), sorted(vars(error).items(), key=lambda item: item[0])


class DeskCase(PromiseCase):

    def fails(self, error, told, desk, command):
        """The command fails with just this error in each way in which it can be given, and nothing is changed."""
        ahead = shot(desk)
        for call in (lambda: desk.do(command), lambda: desk.do(command=command), lambda: desk(command),
                     lambda: desk(command=command)):
            with self.assertRaises(error) as caught:
                call()
            self.assertIs(type(caught.exception), error)
            self.exactly({name: getattr(caught.exception, name) for name in told}, told)
            self.assertEqual(shot(desk), ahead)
        for call in (lambda: desk.do_all("states", command), lambda: desk.attempt("names", command)):
            with self.assertRaises(CommandFailed) as caught:
                call()
            self.assertIs(type(caught.exception), CommandFailed)
            self.exactly(caught.exception.position, 1)
            self.assertEqual(told_error(caught.exception.__cause__)[0], error)
            self.assertEqual(vars(caught.exception.__cause__), told)
            self.assertEqual(shot(desk), ahead)

    def answers(self, desk, *told):
        """Each command has just this answer; told are commands and answers by turns."""
        for command, answer in zip(told[::2], told[1::2]):
            self.exactly(desk.attempt(command), [answer])
            self.exactly(desk.do(command), answer)


class TestKept(DeskCase):

    def test_at_first(self):
        desk = Desk()
        self.exactly([desk.names, desk.labels, len(desk), desk.lines()], [[], [], 0, []])
        self.answers(desk, "names", "-", "states", "-")
        self.assertIs("p" in desk, False)

    def test_names(self):
        desk = started()
        self.exactly(desk.names, ["g", "p", "q", "r", "s", "z"])
        self.exactly(desk.labels, ["k", "m", "n"])
        self.exactly(len(desk), 9)
        self.exactly(desk.lines(), START)
        self.assertEqual(desk["p"], Reader(2, 1, [(0, 0, 0, 0), (0, 1, 0, 1)]))
        self.exactly(desk["z"], ((1, 1), (0,)))
        self.assertIs("p" in desk, True)
        for value in junk() + ["k", "m", "P", "p ", "pp"]:
            self.assertIs(value in desk, False)
            with self.assertRaises(UnknownName) as caught:
                desk[value]
            self.same_value(caught.exception.value, value)
        for told in (desk.names, desk.labels, desk.lines()):
            told.clear()
        self.exactly([len(desk.names), len(desk.labels), len(desk.lines())], [6, 3, 9])

    def test_rows_are_kept_as_told(self):
        desk = started()
        self.answers(desk, "row a 0,1/0,1", "-", "show a", "0,1/0,1", "turn a 0", "-", "show a", "-/0,1", "row b -/3", "-",
                     "show b", "-/3", "show z", "1,1/0")
        self.exactly(desk["a"], ((), (0, 1)))

    def test_lay_and_take(self):
        desk = started()
        self.answers(desk, "lay p 0 1 0 clean", "-", "show p", "letters 2; rooms 1; way 0 0 0 clean; way 0 1 0 clean; way 0 1 0 slip",
                     "single p", "no", "take p 2", "-", "show p", "letters 2; rooms 1; way 0 0 0 clean; way 0 1 0 clean",
                     "single p", "yes")
        ways = desk["p"].ways()
        for parts, way in (("0 0 0 clean", (0, 0, 0, 0)), ("1 0 0 clean", (1, 0, 0, 0)), ("0 2 0 slip", (0, 2, 0, 1)),
                           ("0 0 999999 slip", (0, 0, 999999, 1))):
            self.fails(InvalidWays, {"value": ways + [way]}, desk, f"lay p {parts}")
        self.fails(InvalidWays, {"value": ways[1:]}, desk, "take p 0")
        self.fails(InvalidWays, {"value": ways[:1]}, desk, "take p 1")
        for number in (2, 999999):
            self.fails(InvalidWay, {"value": number}, desk, f"take p {number}")

    def test_97_ways(self):
        desk = Desk()
        desk.do("reader f " + lines_of(full_reader()))
        free = [way for way in [(0, 0, to, 0) for to in range(12)] if way not in full_reader().ways()][0]
        self.fails(InvalidWays, {"value": full_reader().ways() + [free]}, desk, f"lay f 0 0 {free[2]} clean")
        self.answers(desk, "take f 0", "-")
        desk.do(f"lay f 0 0 {free[2]} clean")
        self.assertEqual(desk["f"].many, 96)

    def test_cut_and_rename(self):
        desk = Desk()
        desk.do("reader t " + lines_of(last_reader()))
        self.answers(desk, "memory t", "yes", "copy u t", "-", "cut t 0,3,4,7", "-", "single t", "yes", "same t u", "no",
                     "rename u 0,1", "-", "same u u", "yes", "rename t 0,1", "-")
        self.assertEqual(desk["t"].ways(), [(0, 0, 0, 0), (0, 1, 1, 1), (1, 0, 0, 1), (1, 1, 1, 0)])
        for numbers in ([0], [3, 0, 4, 7], [0, 1, 2, 8], [0, 0, 3, 4, 7]):
            self.fails(InvalidNumbers, {"value": numbers}, desk, "cut u " + ",".join(map(str, numbers)))
        for order in ([0], [1, 0], [0, 1, 2], [0, 0], [0, 2]):
            self.fails(InvalidOrder, {"value": order}, desk, "rename u " + ",".join(map(str, order)))

    def test_joined(self):
        desk = started()
        self.answers(desk, "both b p q", "-", "either e p q", "-", "show b", "letters 2; rooms 1; way 0 0 0 slip; way 0 1 0 slip",
                     "show e", "letters 2; rooms 2; way 0 0 0 clean; way 0 1 1 slip; way 1 0 0 slip; way 1 1 1 clean")
        self.fails(UnlikeLetters, {}, desk, "both c p g")
        self.fails(UnlikeLetters, {}, desk, "either c g p")
        desk = Desk()
        desk.do("reader f " + lines_of(full_reader()))
        self.fails(TooMany, {"what": "rooms", "limit": 12}, desk, "both c f f")
        self.fails(TooMany, {"what": "rooms", "limit": 12}, desk, "either c f f")

    def test_rows(self):
        desk = started()
        self.answers(desk, "weave w r z", "-", "show w", "0,1,1,1/0,0,1,0", "turn w 4", "-", "show w", "-/0,0,1,0",
                     "letters w 0", "-", "letters w 1", "0", "letters w 6", "0,0,1,0,0,0", "unlike w r", "1", "unlike w w", "-",
                     "same w r", "no", "row v 0/0,1,0,0", "-", "same v w", "yes", "unlike w v", "-", "turn w 999999", "-", "show w",
                     "-/0,0,0,1")
        self.fails(InvalidMany, {"value": 401}, desk, "letters r 401")
        self.assertEqual(len(desk.do("letters r 400").split(",")), 400)
        desk.do_all("row a -/" + ",".join(["0"] * 39 + ["1"]), "row b -/" + ",".join(["0"] * 2 + ["1"]))
        self.fails(TooMany, {"what": "letters", "limit": 40}, desk, "weave c a b")

    def test_copy_and_drop(self):
        desk = started()
        self.answers(desk, "copy a p", "-", "copy b r", "-", "same a p", "yes", "same b r", "yes", "lay a 0 1 0 clean", "-",
                     "same a p", "no", "drop a", "-", "names", "b g p q r s z", "drop r", "-", "show b", "-/0,1")
        self.fails(UnknownName, {"value": "a"}, desk, "show a")
        self.answers(desk, "row a -/1", "-", "show a", "-/1")

    def test_questions(self):
        desk = started()
        desk.do("reader t " + lines_of(last_reader()))
        self.answers(desk, "behind t 0", "0,1", "behind p 0,1,0", "0", "standings t", "4", "standings p", "1", "first t 1", "-/0",
                     "first s 5", "-", "first t 0", "-", "single t", "no", "single p", "yes", "memory t", "yes", "memory p", "yes",
                     "state k", "true", "state n", "false", "claimed k", "let p z", "claimed n", "within g s", "claimed m", "chooser p",
                     "states", "k true, m true, n false", "names", "g p q r s t z", "same p q", "no", "same p p", "yes")
        desk.do("reader o " + lines_of(Reader(*GUESS)))
        self.answers(desk, "memory o", "no", "first q 2", "-/1")
        for numbers in ([2], [0] * 41, [0, 1, 2]):
            self.fails(InvalidWord, {"value": numbers}, desk, "behind t " + ",".join(map(str, numbers)))
        self.fails(InvalidMany, {"value": 13}, desk, "first t 13")
        self.fails(TooMany, {"what": "rows", "limit": 400}, desk, "first t 12")
        # Readers are the same only way by way; rows as endless ones.
        desk.do_all("drop o", "reader o letters 2; rooms 2; way 0 0 0 clean; way 0 1 0 slip; way 1 0 0 clean; way 1 1 0 clean")
        self.answers(desk, "same p o", "no", "row a 0/1,0", "-", "same a r", "yes")

    def test_too_many_of_questions(self):
        desk = Desk()
        desk.do_all("reader w " + lines_of(Reader(3, 7, WAYS_401)), "reader f " + lines_of(full_reader()))
        self.fails(TooMany, {"what": "standings", "limit": 400}, desk, "standings w")
        self.fails(TooMany, {"what": "cuttings", "limit": 1000}, desk, "memory f")


class TestRefusals(DeskCase):

    def test_no_commands(self):
        desk = started()
        for value in junk() + ["", "undo ", "state", "claim k won p 0", "reader a letters 1", "row a 4/0", "lay p 0 0 0 0", "copy A p"]:
            ahead = shot(desk)
            for call in (desk.do, desk, desk.do_all, desk.attempt):
                with self.assertRaises((InvalidCommand, CommandFailed)) as caught:
                    call(value)
                error = caught.exception.__cause__ or caught.exception
                self.assertIs(type(error), InvalidCommand)
                self.same_value(error.value, value)
            self.assertEqual(shot(desk), ahead)

    def test_taken(self):
        desk = started()
        for command in ("reader p " + NEAR, "row p -/0", "both p x y", "either p x p", "weave p x y", "copy p x", "copy p p"):
            self.fails(NameTaken, {"name": "p"}, desk, command)
        for command in ("claim k let p z", "claim k let x y", "claim k none g", "claim k ahead p 9", "claim k follows p g"):
            self.fails(LabelTaken, {"label": "k"}, desk, command)

    def test_unknown_names(self):
        desk = started()
        for value, commands in (("x", ["lay x 0 0 0 clean", "take x 0", "cut x 0", "rename x 0", "both a x y", "either a p x",
                                       "turn x 0", "weave a x y", "weave a r x", "copy a x", "drop x", "claim a let x y",
                                       "claim a let p x", "claim a within p x", "claim a chooser x", "claim a ahead x 9", "show x",
                                       "same x y", "same p x", "single x", "memory x", "behind x 0", "standings x", "first x 1",
                                       "letters x 1", "unlike x y", "unlike r x"]),
                                ("r", ["lay r 0 0 0 clean", "take r 0", "cut r 0", "rename r 0", "both a r p", "both a p r",
                                       "claim a let r z", "claim a within p r", "claim a parted r p", "claim a none r",
                                       "claim a beaten r 1", "claim a leaves p r", "same p r", "single r", "memory r", "behind r 0",
                                       "standings r", "first r 1"]),
                                ("p", ["turn p 0", "weave a p r", "weave a r p", "claim a barred q p", "same r p", "letters p 1",
                                       "unlike p r", "unlike r p"])):
            for command in commands:
                self.fails(UnknownName, {"value": value}, desk, command)
        # The first one of several.
        self.fails(UnknownName, {"value": "r"}, desk, "claim a let r p")
        self.fails(UnknownName, {"value": "x"}, desk, "claim a within x p")
        self.fails(UnknownName, {"value": "k"}, desk, "show k")

    def test_unknown_labels(self):
        desk = started()
        for command in ("state x", "claimed x", "forget x"):
            self.fails(UnknownLabel, {"value": "x"}, desk, command)
        for command in ("state p", "claimed p", "forget p"):
            self.fails(UnknownLabel, {"value": "p"}, desk, command)

    def test_no_claims(self):
        desk = started("row t -/2", "row u 2/0")
        near, far, gate, block = [desk[name] for name in "pqgs"]
        for words, claim in (("let p t", ("let", near, ((), (2,)))), ("barred q u", ("barred", far, ((2,), (0,)))),
                             ("within p g", ("within", near, gate)), ("parted s q", ("parted", block, far)),
                             ("ahead p 0", ("ahead", near, 0)), ("beaten p 4", ("beaten", near, 4)),
                             ("ahead p 999999", ("ahead", near, 999999)), ("follows p s", ("follows", near, block)),
                             ("leaves g q", ("leaves", gate, far)), ("let s r", ("let", block, ((), (0, 1))))):
            ahead = shot(desk)
            with self.assertRaises(InvalidClaim) as caught:
                desk.do("claim a " + words)
            self.exactly(caught.exception.value, claim)
            self.assertEqual(shot(desk), ahead)

    def test_too_many_of_claims(self):
        desk = Desk()
        desk.do_all("reader w " + lines_of(Reader(3, 7, WAYS_401)), "reader f " + lines_of(full_reader()),
                    "reader h " + lines_of(reader_at(RIVALS_1_601)), "reader c " + lines_of(clean_reader(3)))
        for words, what, limit in (("within c w", "standings", 400), ("parted c w", "standings", 400), ("chooser w", "standings", 400),
                                   ("none f", "standings", 400), ("ahead h 1", "places", 600), ("beaten h 1", "places", 600),
                                   ("follows f f", "places", 600), ("leaves f f", "places", 600)):
            self.fails(TooMany, {"what": what, "limit": limit}, desk, "claim a " + words)
        self.answers(desk, "claim a within w c", "a true", "claim b follows c w", "b false")

    def test_10_names(self):
        desk = started("row a -/0", "row b -/0", "row c -/0", "row d -/0")
        self.assertEqual(len(desk.names), 10)
        for command in ("reader x " + NEAR, "row x -/0", "both x p q", "either x p q", "weave x r z", "copy x p"):
            self.fails(TooMany, {"what": "names", "limit": 10}, desk, command)
        # What the function tells comes first.
        self.fails(UnlikeLetters, {}, desk, "both x p g")
        self.fails(NameTaken, {"name": "a"}, desk, "copy a p")
        desk.do_all("lay p 0 1 0 clean", "drop d", "copy x p")
        self.assertEqual(len(desk.names), 10)

    def test_8_labels(self):
        desk = started(*[f"claim {label} none p" for label in "abcde"])
        self.assertEqual(len(desk.labels), 8)
        self.fails(TooMany, {"what": "labels", "limit": 8}, desk, "claim x chooser p")
        self.fails(InvalidClaim, {"value": ("ahead", desk["p"], 5)}, desk, "claim x ahead p 5")
        self.fails(LabelTaken, {"label": "a"}, desk, "claim a chooser p")
        desk.do_all("forget a", "claim x chooser p")
        self.assertEqual(len(desk.labels), 8)

    def test_200_deeds(self):
        desk = started()
        while len(desk) < 200:
            desk.do("turn r 1")
        self.fails(TooMany, {"what": "deeds", "limit": 200}, desk, "turn r 1")
        self.fails(TooMany, {"what": "deeds", "limit": 200}, desk, "drop r")
        self.fails(TooMany, {"what": "deeds", "limit": 200}, desk, "forget k")
        self.fails(UnknownName, {"value": "x"}, desk, "drop x")
        self.answers(desk, "states", "k true, m true, n false")
        self.assertEqual(desk.do("undo"), "turn r 1")
        self.assertEqual(desk.do("drop r"), "-")
        self.assertEqual(len(desk), 200)
        self.assertEqual(desk.do("undo"), "drop r")
        self.assertEqual(desk.do("redo"), "drop r")
        self.fails(TooMany, {"what": "deeds", "limit": 200}, desk, "forget k")

    def test_limits_in_their_sequence(self):
        desk = Desk()
        desk.do_all(*[f"row {name} -/0" for name in "abcdefghij"])
        while len(desk) < 200:
            desk.do("turn a 1")
        self.fails(TooMany, {"what": "names", "limit": 10}, desk, "row k -/0")
        desk = started(*[f"claim {label} none p" for label in "abcde"])
        while len(desk) < 200:
            desk.do("turn r 1")
        self.fails(TooMany, {"what": "labels", "limit": 8}, desk, "claim x chooser p")
        self.fails(TooMany, {"what": "deeds", "limit": 200}, desk, "turn r 1")


class TestStates(DeskCase):

    def test_example(self):
        desk = Desk()
        self.exactly(desk.do_all("reader p letters 2; rooms 1; way 0 0 0 clean; way 0 1 0 slip", "row r 1,1/0", "claim k let p r",
                                 "claim c chooser p", "row s -/0,1", "claim b barred p s", "lay p 0 1 0 clean", "states"),
                     ["-", "-", "k true", "c true", "-", "b true", "b false", "b false, c true, k true"])
        self.exactly(desk.do_all("take p 1", "undo", "turn r 2", "show r", "letters s 4", "unlike r s", "copy q p", "drop p",
                                 "claimed b", "names"),
                     ["b true", "take p 1", "-", "-/0", "0,1,0,1", "1", "-", "b gone, c gone, k gone", "barred p s", "q r s"])

    def test_each_word(self):
        desk = started("reader o " + lines_of(Reader(*ONCE)), "reader l " + lines_of(Reader(*LONE)))
        for words, state in (("let p z", "true"), ("let p r", "false"), ("barred p r", "true"), ("within s g", "true"),
                             ("parted s g", "false"), ("parted g s", "true"), ("chooser o", "false"), ("none o", "true"),
                             ("ahead l 1", "true"), ("ahead l 2", "false"), ("beaten l 3", "true"), ("follows s g", "true"),
                             ("follows g s", "false"), ("leaves g s", "true")):
            self.answers(desk, f"claim a {words}", f"a {state}", "state a", state, "claimed a", words, "forget a", "-")

    def test_gone(self):
        desk = started()
        self.answers(desk, "drop z", "k gone", "state k", "gone", "claimed k", "let p z", "states", "k gone, m true, n false",
                     "row z -/1", "k false", "drop z", "k gone", "reader z " + NEAR, "-", "state k", "gone", "drop z", "-",
                     "row z -/0", "k true", "drop p", "k gone, m gone", "row p -/1", "-", "drop p", "-", "reader p " + FAR,
                     "k false, m true")
        # No claim any more: the row has a letter that the reader has not.
        self.answers(desk, "drop p", "k gone, m gone", "reader p " + GATE, "k true, m true", "drop z", "k gone", "row z 1/0", "-",
                     "state k", "gone", "turn z 1", "k true")
        # Unlike letters.
        self.answers(desk, "drop g", "n gone", "reader g " + NEAR, "-", "state n", "gone", "drop s", "-", "reader s " + FAR, "n false")

    def test_gone_by_too_many(self):
        wide, clean = lines_of(Reader(3, 7, WAYS_401)), lines_of(clean_reader(3))
        desk = Desk()
        self.exactly(desk.do_all("reader a " + clean, "reader b " + clean, "claim k within a b", "claim c chooser b",
                                 "claim f follows a b", "drop b", "reader b " + wide, "states", "drop b", "reader b " + clean),
                     ["-", "-", "k true", "c true", "f true", "c gone, f gone, k gone", "f false", "c gone, f false, k gone",
                      "f gone", "c true, f true, k true"])

    def test_forgotten(self):
        desk = started()
        self.answers(desk, "forget m", "-", "states", "k true, n false", "claim m none p", "m false", "forget k", "-", "forget n", "-",
                     "forget m", "-", "states", "-", "claim k barred p z", "k false")

    def test_undo_and_redo(self):
        desk = started()
        self.answers(desk, "turn z 1", "-")
        self.exactly(desk.do_all("undo", "undo", "states", "undo", "undo", "states", "redo", "redo", "states"),
                     ["turn z 1", "claim n within g s", "k true, m true", "claim m chooser p", "claim k let p z", "-",
                      "claim k let p z", "claim m chooser p", "k true, m true"])
        self.exactly(len(desk), 8)
        # Questions come between, deeds don't.
        self.exactly(desk.do_all("names", "redo"), ["g p q r s z", "claim n within g s"])
        self.answers(desk, "forget n", "-")
        self.fails(NothingToRedo, {}, desk, "redo")
        self.exactly(desk.do_all(*["undo"] * 10), ["forget n"] + START[::-1])
        self.fails(NothingToUndo, {}, desk, "undo")
        self.exactly([desk.names, desk.labels, len(desk), desk.lines()], [[], [], 0, []])
        self.exactly(desk.do_all(*["redo"] * 10), START + ["forget n"])
        self.exactly(shot(desk), shot(started("forget n")))

    def test_a_failed_deed_comes_not_between(self):
        desk = started()
        desk.do("undo")
        with self.assertRaises(UnknownName):
            desk.do("drop x")
        self.exactly(desk.do("redo"), START[-1])

    def test_rows_of_commands(self):
        desk = started()
        ahead = shot(desk)
        for commands, position in ((["drop p", "drop p"], 1), (["x"], 0), (["undo"] * 10, 9), (["redo"], 0),
                                   (["forget k", "claim k none p", "drop q", "states", "state x", "drop z"], 4)):
            for call in (desk.do_all, desk.attempt):
                with self.assertRaises(CommandFailed) as caught:
                    call(*commands)
                self.exactly(caught.exception.position, position)
                self.assertIsInstance(caught.exception.__cause__, Exception)
                self.assertEqual(shot(desk), ahead)
        self.exactly(desk.do_all(), [])
        self.exactly(desk.attempt(), [])
        self.exactly(desk.attempt("undo", "drop p", "states"), ["claim n within g s", "k gone, m gone", "k gone, m gone"])
        self.assertEqual(shot(desk), ahead)
        self.fails(NothingToRedo, {}, desk, "redo")

    def test_against_a_plain_desk(self):
        source = random.Random(101)
        names, labels = "pqrs", "klm"
        rows = ["-/0", "-/0,1", "1/0", "2/1", "0,1/1,0"]
        readers = [lines_of(reader) for reader in (Reader(2, 1, [(0, 0, 0, 0), (0, 1, 0, 1)]), clean_reader(), slip_reader(2),
                                                   last_reader(), Reader(*LONE))]
        failed = answered = 0
        for _ in range(40):
            desk, plain = Desk(), PlainDesk()
            for _ in range(60):
                a, b, c = [source.choice(names) for _ in range(3)]
                label, many = source.choice(labels), source.randrange(6)
                command = source.choice([
                    f"reader {a} {source.choice(readers)}", f"row {a} {source.choice(rows)}", f"reader {a} {source.choice(readers)}",
                    f"lay {a} 0 {many % 2} {many % 3} {source.choice(['clean', 'slip'])}", f"take {a} {many}", f"cut {a} 0,1",
                    f"cut {a} 0,3,4,7", f"rename {a} 0,1", f"both {a} {b} {c}", f"either {a} {b} {c}", f"turn {a} {many}",
                    f"weave {a} {b} {c}", f"copy {a} {b}", f"drop {a}", f"claim {label} let {a} {b}", f"claim {label} barred {a} {b}",
                    f"claim {label} within {a} {b}", f"claim {label} parted {a} {b}", f"claim {label} chooser {a}",
                    f"claim {label} none {a}", f"claim {label} ahead {a} {many}", f"claim {label} beaten {a} 1",
                    f"claim {label} follows {a} {b}", f"claim {label} leaves {a} {b}", f"forget {label}", "undo", "redo", "undo",
                    "redo", f"state {label}", "states", f"claimed {label}", "names", f"show {a}", f"same {a} {b}", f"single {a}",
                    f"memory {a}", f"behind {a} 0,{many % 3}", f"standings {a}", f"first {a} {many % 4}", f"letters {a} {many}",
                    f"unlike {a} {b}", "x"])
                results = []
                for one in (plain, desk):
                    try:
                        results.append(one.do(command))
                    except (errors.RivalError, errors.MissingError, errors.StateError, errors.LimitError) as error:
                        results.append(told_error(error))
                self.assertEqual(results[0], results[1], command)
                failed, answered = failed + isinstance(results[0], tuple), answered + isinstance(results[0], str)
                self.assertEqual((desk.names, desk.labels, desk.lines()), (sorted(plain.things), sorted(plain.claims), plain.lines()))
                self.assertEqual({name: desk[name] for name in desk.names}, plain.things)
                self.assertEqual([desk.claim_of(label) for label in desk.labels], [plain.claim_of(label) for label in desk.labels])
            self.assertEqual(len(desk), len(plain.done))
        self.assertGreater(min(failed, answered), 400)


class TestClaimsOfLabels(DeskCase):

    def test_claims(self):
        desk = started("claim a ahead p 2")
        self.exactly(desk.claim_of("k"), ("let", desk["p"], ((1, 1), (0,))))
        self.exactly(desk.claim_of(label="m"), ("chooser", desk["p"]))
        self.exactly(desk.claim_of("n"), ("within", desk["g"], desk["s"]))
        self.exactly(desk.claim_of("a"), ("ahead", desk["p"], 2))
        desk.do_all("turn z 1", "lay p 0 0 0 slip")
        self.exactly(desk.claim_of("k"), ("let", Reader(2, 1, [(0, 0, 0, 0), (0, 0, 0, 1), (0, 1, 0, 1)]), ((1,), (0,))))
        desk.do("drop p")
        for label in ("k", "m", "a"):
            self.assertIsNone(desk.claim_of(label))
        desk.do("drop g")
        self.assertIsNone(desk.claim_of("n"))

    def test_unknown(self):
        desk = started("forget m")
        for value in junk() + ["m", "p", "K"]:
            for call in (desk.claim_of, desk.fits, lambda label: desk.attach(label, None)):
                with self.assertRaises(UnknownLabel) as caught:
                    call(value)
                self.same_value(caught.exception.value, value)


class TestPapersOfLabels(DeskCase):

    def test_of_the_claim(self):
        desk = started()
        self.assertIs(desk.fits("k"), False)
        self.assertIsNone(desk.attach("k", ([1, 1], [0])))
        self.assertIs(desk.fits("k"), True)
        self.assertIs(desk.fits(label="m"), False)
        self.assertIsNone(desk.attach(label="m", paper=paper_of(desk.claim_of("m"))))
        self.assertIs(desk.fits("m"), True)
        # It is no deed.
        self.exactly([len(desk), desk.lines(), desk.do("undo")], [9, START, START[-1]])
        desk.attach("k", ([1, 1], [0, 0]))
        self.exactly(desk.do("redo"), START[-1])

    def test_of_the_contrary(self):
        desk = started()
        self.assertIsNone(desk.attach("n", ((), (0,))))
        self.assertIs(desk.fits("n"), True)
        desk.do("claim b barred p z")
        self.assertIsNone(desk.attach("b", ([1, 1], [0])))
        self.assertIs(desk.fits("b"), True)

    def test_no_papers(self):
        desk = started()
        desk.attach("k", ([1, 1], [0]))
        for label, values in (("k", junk() + [([1, 1], [1]), ([1], [0]), [(0, 0, 0)], ((), (0,))]),
                              ("m", junk() + [([1, 1], [0]), ((), (0,))]), ("n", junk() + [((), (1,)), [((0, ((0,), (0,))), 0)]])):
            for value in values:
                if label == "n" and value == ((), (0,)):
                    continue
                with self.assertRaises(InvalidPaper) as caught:
                    desk.attach(label, value)
                self.same_value(caught.exception.value, value)
        # What was kept stays.
        self.exactly([desk.fits(label) for label in "kmn"], [True, False, False])

    def test_one_thing_otherwise(self):
        desk = started()
        for label in "kmn":
            paper = {"k": ([1, 1], [0]), "m": paper_of(desk.claim_of("m")), "n": ((), (0,))}[label]
            found = {True: 0, False: 0}
            for value in changed(paper):
                try:
                    desk.attach(label, value)
                    told = True
                except InvalidPaper:
                    told = False
                found[told] += 1
                self.assertIs(desk.fits(label), told or found[True] > 0)
            self.assertGreater(found[False], 5)

    def test_gone(self):
        desk = started()
        paper = paper_of(desk.claim_of("m"))
        desk.attach("m", paper)
        desk.do("drop p")
        self.assertIs(desk.fits("m"), False)
        with self.assertRaises(InvalidPaper) as caught:
            desk.attach("m", paper)
        self.same_value(caught.exception.value, paper)
        desk.do("undo")
        self.assertIs(desk.fits("m"), True)
        desk.do_all("drop p", "reader p " + NEAR)
        self.assertIs(desk.fits("m"), True)

    def test_what_no_longer_fits(self):
        desk = started()
        desk.attach("k", ([1, 1], [0]))
        desk.do("turn z 1")
        self.assertIs(desk.fits("k"), False)
        desk.do("undo")
        self.assertIs(desk.fits("k"), True)
        # By the laid way the numbers of ways are others.
        desk.do("lay p 0 0 0 slip")
        self.assertIs(desk.fits("k"), False)
        desk.do("take p 1")
        self.assertIs(desk.fits("k"), True)
        # Only the claim's contrary is true now, and the paper was kept for the claim.
        desk.do_all("drop p", "reader p " + FAR)
        self.exactly(desk.do("state k"), "false")
        self.assertIs(desk.fits("k"), False)

    def test_the_words_of_the_claim(self):
        desk = started("claim a let p z")
        desk.attach("a", ([1, 1], [0]))
        desk.do("forget a")
        self.exactly(desk.labels, ["k", "m", "n"])
        desk.do("claim a let p z")
        self.assertIs(desk.fits("a"), True)
        # The same things, the contrary's word; the same thing under another name.
        desk.do_all("forget a", "claim a barred p z")
        self.assertIs(desk.fits("a"), False)
        desk.do_all("forget a", "copy o p", "claim a let o z")
        self.assertIs(desk.fits("a"), False)
        desk.do_all("forget a", "claim a let p z")
        self.assertIs(desk.fits("a"), True)
        desk.do_all("forget a", "claim a ahead p 1")
        desk.attach("a", paper_of(desk.claim_of("a")))
        desk.do_all("forget a", "claim a ahead p 2")
        self.assertIs(desk.fits("a"), False)
        desk.do_all("forget a", "claim a let p z")
        self.assertIs(desk.fits("a"), False)

    def test_it_stays_whatever_is_done(self):
        desk = started()
        desk.attach("k", ([1, 1], [0]))
        desk.do_all(*["undo"] * 9)
        with self.assertRaises(UnknownLabel):
            desk.fits("k")
        desk.do_all(*["redo"] * 9)
        self.assertIs(desk.fits("k"), True)
        desk.attempt("forget k")
        with self.assertRaises(CommandFailed):
            desk.do_all("forget k", "x")
        self.assertIs(desk.fits("k"), True)
        desk.do_all(*["undo"] * 9)
        desk.do_all("row z 1,1/0", "reader p " + NEAR, "claim k let p z")
        self.assertIs(desk.fits("k"), True)

    def test_another_one_takes_its_place(self):
        desk = started()
        desk.attach("k", ([1, 1], [0]))
        desk.do("turn z 1")
        desk.attach("k", ([1], [0]))
        self.assertIs(desk.fits("k"), True)
        desk.do("undo")
        self.assertIs(desk.fits("k"), False)

    def test_what_was_passed_may_change(self):
        desk = started()
        run = ([1, 1], [0])
        desk.attach("k", run)
        run[1].append(1)
        run[0].clear()
        self.assertIs(desk.fits("k"), True)
        paper = paper_of(desk.claim_of("m"))
        desk.attach("m", paper)
        paper[0][1].clear()
        paper.clear()
        self.assertIs(desk.fits("m"), True)

    def test_foes(self):
        desk = started("reader o " + lines_of(Reader(*ONCE)), "claim c none o", "claim b beaten o 1")
        for label in "cb":
            desk.attach(label, paper_of(desk.claim_of(label)))
            self.assertIs(desk.fits(label), True)


class TestTrials(DeskCase):

    def test_all_is_as_it_was(self):
        desk = started()
        desk.attach("k", ([1, 1], [0]))
        desk.do_all("turn r 1", "undo")
        ahead = shot(desk)
        with Trial(desk) as held:
            self.assertIs(held, desk)
            held.do_all("drop p", "forget n", "undo", "undo", "undo")
            self.exactly(held.labels, ["k", "m"])
            held.attach("m", paper_of(held.claim_of("m")))
            self.assertNotEqual(shot(desk), ahead)
        self.assertEqual(shot(desk), ahead)
        self.exactly(desk.do("redo"), "turn r 1")

    def test_papers(self):
        desk = started()
        desk.attach("k", ([1, 1], [0]))
        with Trial(desk):
            desk.do("turn z 1")
            desk.attach("k", ([1], [0]))
            desk.attach("n", ((), (0,)))
            self.exactly([desk.fits("k"), desk.fits("n")], [True, True])
        self.exactly([desk.fits("k"), desk.fits("n")], [True, False])

    def test_errors_go_on(self):
        desk = started()
        ahead = shot(desk)
        with self.assertRaises(UnknownName):
            with Trial(desk=desk):
                desk.do("drop z")
                desk.do("drop z")
        self.assertEqual(shot(desk), ahead)
        with self.assertRaises(ZeroDivisionError):
            with Trial(desk):
                desk.do("forget k")
                1 // 0
        self.assertEqual(shot(desk), ahead)

    def test_one_within_another(self):
        desk = started()
        ahead = shot(desk)
        trial = Trial(desk)
        with trial:
            desk.do("drop z")
            between = shot(desk)
            for inner in (trial, Trial(desk)):
                with inner as held:
                    held.do("drop p")
                    self.assertEqual(held.names, ["g", "q", "r", "s"])
                self.assertEqual(shot(desk), between)
        self.assertEqual(shot(desk), ahead)
        with trial:
            desk.do("drop q")
        self.assertEqual(shot(desk), ahead)
        # What is done ahead of the block stays.
        trial = Trial(desk)
        desk.do("drop s")
        with trial:
            desk.do("drop q")
        self.assertEqual(desk.names, ["g", "p", "q", "r", "z"])

    def test_tried(self):
        desk = started()
        ahead = shot(desk)
        self.exactly(tried(desk, lambda held: held.do("drop p")), "k gone, m gone")
        self.exactly(tried(action=lambda held: [held is desk, held.do_all("drop p", "names")], desk=desk),
                     [True, ["k gone, m gone", "g q r s z"]])
        self.assertIsNone(tried(desk, lambda held: None))
        self.assertEqual(shot(desk), ahead)
        with self.assertRaises(CommandFailed):
            tried(desk, lambda held: held.do_all("drop p", "x"))
        with self.assertRaises(ZeroDivisionError):
            tried(desk, lambda held: [held.do("drop p"), 1 // 0])
        self.assertEqual(shot(desk), ahead)


class TestCopiesAndLines(DeskCase):

    def test_copies(self):
        desk = started()
        desk.attach("k", ([1, 1], [0]))
        desk.do_all("turn r 1", "undo")
        other = desk.copy()
        self.assertIs(type(other), Desk)
        self.assertEqual(shot(other), shot(desk))
        ahead = shot(desk)
        self.exactly(other.do_all("redo", "drop p", "forget n"), ["turn r 1", "k gone, m gone", "-"])
        other.attempt("undo")
        self.assertEqual(shot(desk), ahead)
        self.assertIs(desk.fits("k"), True)
        behind = shot(other)
        self.exactly(desk.do("drop z"), "k gone")
        self.assertEqual(shot(other), behind)
        third = other.copy()
        with self.assertRaises(InvalidPaper):
            third.attach("k", ([1, 1], [0]))
        third.do("undo")
        third.do("undo")
        third.attach("m", paper_of(third.claim_of("m")))
        self.exactly([third.fits("k"), third.fits("m")], [True, True])
        self.assertEqual(shot(other), behind)

    def test_again(self):
        desk = started("turn r 1", "drop p", "undo", "forget n", "both b p q")
        other = Desk.again(desk.lines())
        self.assertIs(type(other), Desk)
        self.assertEqual(shot(other), shot(desk))
        self.assertEqual(shot(Desk.again(lines=tuple(desk.lines()))), shot(desk))
        self.assertEqual(shot(Desk.again([])), shot(Desk()))
        self.fails(NothingToRedo, {}, other, "redo")

    def test_again_of_a_long_one(self):
        lines = ["row r -/0,1"] + ["turn r 1"] * 199
        self.exactly(len(Desk.again(lines)), 200)
        with self.assertRaises(CommandFailed) as caught:
            Desk.again(lines + ["drop r"])
        self.exactly(caught.exception.position, 200)
        self.exactly([caught.exception.__cause__.what, caught.exception.__cause__.limit], ["deeds", 200])

    def test_no_deeds(self):
        for value in junk():
            if value == () and type(value) is tuple or value == [] and type(value) is list:
                continue
            position = 0 if isinstance(value, (list, tuple)) else None
            for call in (lambda: Desk.again(value), lambda: Desk.again(lines=value)):
                with self.assertRaises(InvalidDeeds) as caught:
                    call()
                self.exactly(caught.exception.position, position)
        for more, position in ((["undo"], 9), (["states"], 9), (["drop x", "drop"], 10), (["drop p", None, "x"], 10),
                               (["x", "drop x"], 9), (["names"] * 3, 9)):
            with self.assertRaises(InvalidDeeds) as caught:
                Desk.again(START + more)
            self.exactly(caught.exception.position, position)

    def test_deeds_that_fail(self):
        for more, position, error in ((["drop x"], 9, UnknownName), (["drop p", "drop p"], 10, UnknownName),
                                      (["row r -/0"], 9, NameTaken), (["claim k none p"], 9, LabelTaken)):
            with self.assertRaises(CommandFailed) as caught:
                Desk.again(START + more)
            self.exactly(caught.exception.position, position)
            self.assertIs(type(caught.exception.__cause__), error)

    def test_not_iterated_over(self):
        with self.assertRaises(TypeError):
            list(started())
