"""Every error that the package raises, each class under the one it derives from."""


class RivalError(ValueError):
    """A value that was passed is not valid."""


class InvalidLetters(RivalError):
    """What should be how many letters there are is not from 1 to 4."""

    def __init__(self, value):
        self.value = value


class InvalidReader(RivalError):
    """What should be a Reader is none."""

    def __init__(self, value):
        self.value = value


class InvalidRow(RivalError):
    """What should be a row is none."""

    def __init__(self, value):
        self.value = value


class InvalidLetter(RivalError):
    """What should be a letter of the reader is none."""

    def __init__(self, value):
        self.value = value


class InvalidRoom(RivalError):
    """What should be a room of the reader is none."""

    def __init__(self, value):
        self.value = value


class InvalidWord(RivalError):
    """What should be a word of letters is none."""

    def __init__(self, value):
        self.value = value


class InvalidBoard(RivalError):
    """What should be a Board is none."""

    def __init__(self, value):
        self.value = value


class InvalidPlace(RivalError):
    """What should be a place is none."""

    def __init__(self, value):
        self.value = value


class InvalidHand(RivalError):
    """What should be one of both hands is none."""

    def __init__(self, value):
        self.value = value


class InvalidTable(RivalError):
    """What should be a chooser's table is none."""

    def __init__(self, value):
        self.value = value


class InvalidWish(RivalError):
    """What should be a Wish is none."""

    def __init__(self, value):
        self.value = value


class InvalidMany(RivalError):
    """What should tell how many is no such number."""

    def __init__(self, value):
        self.value = value


class BadText(RivalError):
    """A text is no reader's: the wrong line, None for what is no string."""

    def __init__(self, line):
        self.line = line


class InvalidClaim(RivalError):
    """What should be a claim is none."""

    def __init__(self, value):
        self.value = value


class InvalidCommand(RivalError):
    """What should be a command is none."""

    def __init__(self, value):
        self.value = value


class InvalidDeeds(RivalError):
    """Not all of the lines are deeds: the first that is none, None without a list."""

    def __init__(self, position):
        self.position = position


class InvalidFoe(RivalError):
    """What should be a foe of the reader is none."""

    def __init__(self, value):
        self.value = value


class InvalidLot(RivalError):
    """What should be a rising list of places is none."""

    def __init__(self, value):
        self.value = value


class InvalidMoves(RivalError):
    """What should be the moves of all places is not."""

    def __init__(self, value):
        self.value = value


class InvalidNumbers(RivalError):
    """What should be a cutting of the reader is none."""

    def __init__(self, value):
        self.value = value


class InvalidOrder(RivalError):
    """What should be an order of the reader's rooms is none."""

    def __init__(self, value):
        self.value = value


class InvalidOwners(RivalError):
    """What should be the owners of all places is not."""

    def __init__(self, value):
        self.value = value


class InvalidPaper(RivalError):
    """What should be a paper of the wanted sort is none."""

    def __init__(self, value):
        self.value = value


class InvalidPlaces(RivalError):
    """What should be how many places there are is no such number."""

    def __init__(self, value):
        self.value = value


class InvalidPlan(RivalError):
    """What should be a plan of the hand is none."""

    def __init__(self, value):
        self.value = value


class InvalidPlay(RivalError):
    """What should be a play is none."""

    def __init__(self, value):
        self.value = value


class InvalidRanks(RivalError):
    """What should be the ranks of all places is not."""

    def __init__(self, value):
        self.value = value


class InvalidRooms(RivalError):
    """What should be how many rooms there are is not from 1 to 12."""

    def __init__(self, value):
        self.value = value


class InvalidRun(RivalError):
    """What should be a told run of the reader is none."""

    def __init__(self, value):
        self.value = value


class InvalidSort(RivalError):
    """What should be the word of a sort is none."""

    def __init__(self, value):
        self.value = value


class InvalidStanding(RivalError):
    """What should be a standing of the reader is none."""

    def __init__(self, value):
        self.value = value


class InvalidState(RivalError):
    """What should be a state of the reader is none."""

    def __init__(self, value):
        self.value = value


class InvalidThing(RivalError):
    """What should be a thing of the sort is none."""

    def __init__(self, value):
        self.value = value


class InvalidWay(RivalError):
    """What should be the number of a way is none."""

    def __init__(self, value):
        self.value = value


class InvalidWays(RivalError):
    """What should be the ways of a reader, or some of them, is not."""

    def __init__(self, value):
        self.value = value


class UnreadText(RivalError):
    """A text is no written thing of the sort: the unread position."""

    def __init__(self, position):
        self.position = position


class MissingError(LookupError):
    """Something that was asked for is not there."""


class UnknownLabel(MissingError):
    """Nothing is noted under this label."""

    def __init__(self, value):
        self.value = value


class UnknownName(MissingError):
    """Nothing of the wanted sort is kept under this name."""

    def __init__(self, value):
        self.value = value


class StateError(RuntimeError):
    """It can't be done as things stand."""


class UnlikeLetters(StateError):
    """Two readers have unlike letters."""

    def __init__(self):
        pass


class CommandFailed(StateError):
    """One of several commands failed."""

    def __init__(self, position):
        self.position = position


class LabelTaken(StateError):
    """Something is noted under this label."""

    def __init__(self, label):
        self.label = label


class NameTaken(StateError):
    """Something is kept under this name."""

    def __init__(self, name):
        self.name = name


class NoMove(StateError):
    """A plan tells no move of this place."""

    def __init__(self, place):
        self.place = place


class NothingToRedo(StateError):
    """No deed can be done again."""

    def __init__(self):
        pass


class NothingToUndo(StateError):
    """No deed can be taken back."""

    def __init__(self):
        pass


class LimitError(ArithmeticError):
    """A limit was gone beyond."""


class TooMany(LimitError):
    """There are more of something than the limit."""

    def __init__(self, what, limit):
        self.what = what
        self.limit = limit
