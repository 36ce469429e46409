"""A desk, which keeps readers and rows, and notes claims about them [9b]."""

from tworivals.answers import answer_to
from tworivals.basics import is_list
from tworivals.claims import contrary, is_paper_of
from tworivals.commands import is_deed, is_deed_word, parsed
from tworivals.errors import CommandFailed, InvalidCommand, InvalidDeeds, InvalidPaper, LimitError, MissingError
from tworivals.errors import NothingToRedo, NothingToUndo, RivalError, StateError, TooMany, UnknownLabel, UnknownName
from tworivals.pages import Page, changes_line, claim_now, claim_words, page_behind, values_of

MOST_DEEDS = 200


class Book:
    """The whole of a desk: its page, the deeds that led to it, those taken back, and papers; nothing of it is changed.

    A deed that was done is told by its line and the page ahead of it, one taken back by its line and the page behind.
    A paper is told, for its label, by the words of its claim, whether it was of it or of its contrary, and the paper.
    """

    def __init__(self, page, done, undone, papers):
        self.page = page
        self.done = done
        self.undone = undone
        self.papers = papers


class Desk:
    """Readers and rows under names, claims about them under labels, and the deeds by which it came so."""

    def __init__(self):
        self._book = Book(Page({}, {}, {}), [], [], {})

    def __len__(self):
        return len(self._book.done)

    def __getitem__(self, name):
        if not isinstance(name, str) or name not in self._book.page.things:
            raise UnknownName(name)
        return self._book.page.things[name]

    def __contains__(self, name):
        return isinstance(name, str) and name in self._book.page.things

    def __iter__(self):
        raise TypeError("a desk is not iterated over")

    def __call__(self, command):
        return self.do(command)

    @property
    def names(self):
        """The sorted list of the names under which something is kept."""
        return sorted(self._book.page.things)

    @property
    def labels(self):
        """The sorted list of the labels under which a claim is noted."""
        return sorted(self._book.page.claims)

    def claim_of(self, label):
        """The claim of the label with what is kept now, None while its state is gone."""
        page = self._book.page
        if not isinstance(label, str) or label not in page.claims:
            raise UnknownLabel(label)
        return claim_now(page, label)

    def do(self, command):
        """The answer to the command, which is carried out."""
        book, answer = _after(self._book, command)
        self._book = book
        return answer

    def do_all(self, *commands):
        """The list of the answers to the commands; if one fails, none has an effect."""
        book, answers = _after_all(self._book, commands)
        self._book = book
        return answers

    def attempt(self, *commands):
        """As do_all, but all is as ahead even so."""
        _, answers = _after_all(self._book, commands)
        return answers

    def attach(self, label, paper):
        """A paper of the label's claim, or of its contrary, is kept with the label."""
        claim = self.claim_of(label)
        if claim is None:
            raise InvalidPaper(paper)
        is_own = is_paper_of(claim, paper)
        if not is_own and not is_paper_of(contrary(claim), paper):
            raise InvalidPaper(paper)
        book = self._book
        told = (claim_words(book.page, label), is_own, _copied(paper))
        self._book = Book(book.page, book.done, book.undone, {**book.papers, label: told})

    def fits(self, label):
        """Whether a paper is kept with the label that is still one of what it was kept for."""
        claim = self.claim_of(label)
        book = self._book
        if claim is None or label not in book.papers:
            return False
        told, is_own, paper = book.papers[label]
        if told != claim_words(book.page, label):
            return False
        return is_paper_of(claim if is_own else contrary(claim), paper)

    def lines(self):
        """The list of the lines of the deeds that are not taken back."""
        return [line for line, _ in self._book.done]

    def copy(self):
        """A desk that goes on by itself, with all of this one."""
        desk = Desk()
        desk._book = self._book
        return desk

    @classmethod
    def again(cls, lines):
        """A desk that has done these deeds."""
        if not is_list(lines):
            raise InvalidDeeds(None)
        for at, line in enumerate(lines):
            if not is_deed(line):
                raise InvalidDeeds(at)
        desk = cls()
        desk.do_all(*lines)
        return desk


class Kept:
    """What a desk was when a block was entered, and what was kept ahead of it."""

    def __init__(self, book, ahead):
        self.book = book
        self.ahead = ahead


class Trial:
    """A block behind which all of the desk is as it was ahead."""

    def __init__(self, desk):
        self._desk = desk
        self._kept = None

    def __enter__(self):
        # Within its own block it may be entered once more.
        self._kept = Kept(self._desk._book, self._kept)
        return self._desk

    def __exit__(self, kind, value, trace):
        desk = self._desk
        desk._book = self._kept.book
        self._kept = self._kept.ahead


def tried(desk, action):
    """What the function action returns for the desk, which is behind it as it was ahead."""
    with Trial(desk) as held:
        return action(held)


def _after(book, command):
    """The tuple of the book behind the command, and of the answer."""
    told = parsed(command)
    if told is None:
        raise InvalidCommand(command)
    word, kinds, parts = told
    if word == "undo":
        return _taken_back(book)
    if word == "redo":
        return _done_again(book)
    if not is_deed_word(word):
        return book, answer_to(book.page, word, values_of(book.page, kinds, parts))
    page = page_behind(book.page, word, kinds, parts)
    if len(book.done) == MOST_DEEDS:
        raise TooMany("deeds", MOST_DEEDS)
    return Book(page, book.done + [(command, book.page)], [], book.papers), changes_line(book.page, page)


def _taken_back(book):
    if not book.done:
        raise NothingToUndo()
    line, page = book.done[-1]
    return Book(page, book.done[:-1], book.undone + [(line, book.page)], book.papers), line


def _done_again(book):
    if not book.undone:
        raise NothingToRedo()
    line, page = book.undone[-1]
    return Book(page, book.done + [(line, book.page)], book.undone[:-1], book.papers), line


def _after_all(book, commands):
    """The tuple of the book behind the commands, and of the list of the answers."""
    answers = []
    for at, command in enumerate(commands):
        try:
            book, answer = _after(book, command)
        except (RivalError, MissingError, StateError, LimitError) as error:
            raise CommandFailed(at) from error
        answers.append(answer)
    return book, answers


def _copied(value):
    """The value, with all lists in it copied."""
    if isinstance(value, list):
        return [_copied(item) for item in value]
    if isinstance(value, tuple):
        return tuple([_copied(item) for item in value])
    return value
