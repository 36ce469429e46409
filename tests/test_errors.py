"""Every error of the interface: where it stands, what it derives from, and what it keeps."""

from tests.tools import PromiseCase, junk
from tworivals import errors

VALUES = """InvalidLetters InvalidReader InvalidRow InvalidLetter InvalidRoom InvalidWord InvalidBoard InvalidPlace
InvalidHand InvalidTable InvalidWish InvalidMany InvalidClaim InvalidCommand InvalidFoe InvalidLot InvalidMoves
InvalidNumbers InvalidOrder InvalidOwners InvalidPaper InvalidPlaces InvalidPlan InvalidPlay InvalidRanks InvalidRooms
InvalidRun InvalidSort InvalidStanding InvalidState InvalidThing InvalidWay InvalidWays""".split()

TABLE = [(name, "RivalError", ["value"]) for name in VALUES] + [
    ("BadText", "RivalError", ["line"]),
    ("InvalidDeeds", "RivalError", ["position"]),
    ("UnreadText", "RivalError", ["position"]),
    ("UnknownLabel", "MissingError", ["value"]),
    ("UnknownName", "MissingError", ["value"]),
    ("UnlikeLetters", "StateError", []),
    ("CommandFailed", "StateError", ["position"]),
    ("LabelTaken", "StateError", ["label"]),
    ("NameTaken", "StateError", ["name"]),
    ("NoMove", "StateError", ["place"]),
    ("NothingToRedo", "StateError", []),
    ("NothingToUndo", "StateError", []),
    ("TooMany", "LimitError", ["what", "limit"]),
]

BASES = {"RivalError": ValueError, "MissingError": LookupError, "StateError": RuntimeError,
         "LimitError": ArithmeticError}


class TestErrors(PromiseCase):

    def test_bases(self):
        for name, above in BASES.items():
            self.assertEqual(getattr(errors, name).__bases__, (above,), name)
        for name, base, _ in TABLE:
            self.assertEqual(getattr(errors, name).__bases__, (getattr(errors, base),), name)

    def test_defined_here(self):
        for name in list(BASES) + [name for name, _, _ in TABLE]:
            error = getattr(errors, name)
            self.assertEqual((error.__module__, error.__qualname__), ("tworivals.errors", name))

    def test_no_others(self):
        found = [name for name, value in vars(errors).items()
                 if isinstance(value, type) and issubclass(value, Exception) and not name.startswith("_")]
        self.assertEqual(sorted(found), sorted(list(BASES) + [name for name, _, _ in TABLE]))

    def test_attributes_hold_any_values(self):
        for name, _, parameters in TABLE:
            error = getattr(errors, name)
            for value in junk():
                values = [value] + [[value]] * (len(parameters) - 1) if parameters else []
                told = dict(zip(parameters, values))
                for made in (error(*values), error(**told)):
                    self.assertEqual(sorted(vars(made)), sorted(parameters))
                    for parameter, passed in told.items():
                        self.same_value(getattr(made, parameter), passed)

    def test_caught_by_their_bases(self):
        for name, base, parameters in TABLE:
            with self.assertRaises(BASES[base]):
                raise getattr(errors, name)(*[None] * len(parameters))
