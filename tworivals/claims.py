"""Claims, a word with the things that it tells of, whether they are true, and papers that show it [9a4]."""

from tworivals.basics import is_count
from tworivals.boards import Board
from tworivals.checks import is_row_of
from tworivals.errors import InvalidClaim
from tworivals.foes import is_foe
from tworivals.heights import height_paper, is_height_paper
from tworivals.measures import is_win_paper, win_paper
from tworivals.peeling import winners
from tworivals.plays import chooser_paper, foe_paper, has_chooser, is_chooser_paper, is_foe_paper
from tworivals.readers import Reader
from tworivals.rivals import MOST_RIVALS, is_rivals_paper, rivals_paper, wins_rivals
from tworivals.runs import clean_run, is_run, lets_by, slips_of
from tworivals.steps import follows, following_paper, is_following_paper, is_leaving_paper, leaving_paper
from tworivals.within import is_parting_row, is_within, is_within_paper, parting_row, within_paper

PAIRS = (("let", "barred"), ("within", "parted"), ("chooser", "none"), ("ahead", "beaten"), ("won", "lost"),
         ("follows", "leaves"))


def words():
    """The list of the tuples (word, its contrary)."""
    return list(PAIRS)


def is_claim(value):
    """Whether the value is a claim."""
    if not isinstance(value, tuple) or len(value) == 0:
        return False
    first = _first_word(value[0])
    if first == "chooser":
        return len(value) == 2 and isinstance(value[1], Reader)
    if first is None or len(value) != 3:
        return False
    _, thing, more = value
    if first == "won":
        return isinstance(thing, Board) and is_count(more) and more < thing.many
    if not isinstance(thing, Reader):
        return False
    if first == "let":
        return is_row_of(thing.letters, more)
    if first == "ahead":
        return is_count(more) and 1 <= more <= MOST_RIVALS
    return isinstance(more, Reader) and more.letters == thing.letters


def contrary(claim):
    """The contrary of the claim: the contrary's word with the same things."""
    check_claim(claim)
    return _contrary_word(claim[0]), *claim[1:]


def is_true(claim):
    """Whether the claim is true."""
    check_claim(claim)
    first = _first_word(claim[0])
    return _holds(first, claim[1:]) == (claim[0] == first)


def paper_of(claim):
    """A paper of the claim, None if it isn't true."""
    check_claim(claim)
    word = claim[0]
    things = claim[1:]
    if word in ("ahead", "beaten"):
        paper = rivals_paper(*things)
        return paper if paper[0] == _hand_of(word) else None
    if word in ("won", "lost"):
        board, place = things
        paper = win_paper(board, _hand_of(word))
        return paper if paper is not None and place in paper[0] else None
    return _told_paper(word, things)


def is_paper_of(claim, value):
    """Whether the value is a paper of the claim."""
    check_claim(claim)
    word = claim[0]
    things = claim[1:]
    if word in ("ahead", "beaten"):
        return is_rivals_paper(*things, value) and value[0] == _hand_of(word)
    if word in ("won", "lost"):
        board, place = things
        return is_win_paper(board, _hand_of(word), value) and place in value[0]
    if word == "let":
        return is_run(*things, value) and slips_of(things[0], value)[1] == 0
    if word == "none":
        return is_foe_paper(*things, value) or is_foe(*things, value)
    return _is_judged(word, things, value)


def check_claim(claim):
    """Only a claim passes."""
    if not is_claim(claim):
        raise InvalidClaim(claim)


def _first_word(word):
    """The word of this and its contrary that stands first, None if this is none of them."""
    for first, second in PAIRS:
        if word in (first, second):
            return first
    return None


def _contrary_word(word):
    for first, second in PAIRS:
        if word == first:
            return second
        if word == second:
            return first
    return None


def _hand_of(word):
    """The hand that wins, if a claim of this word is true."""
    return 0 if word in ("ahead", "won") else 1


def _holds(word, things):
    """Whether the claim of this word, a first one, is true."""
    if word == "let":
        return lets_by(*things)
    if word == "within":
        return is_within(*things)
    if word == "chooser":
        return has_chooser(*things)
    if word == "ahead":
        return wins_rivals(*things)
    if word == "follows":
        return follows(*things)
    board, place = things
    return winners(board)[place] == 0


def _told_paper(word, things):
    """The paper of a claim that isn't one of a hand's."""
    if word == "let":
        return clean_run(*things)
    if word == "barred":
        return height_paper(*things)
    if word == "within":
        return within_paper(*things)
    if word == "parted":
        return parting_row(*things)
    if word == "chooser":
        return chooser_paper(*things)
    if word == "none":
        return foe_paper(*things)
    if word == "follows":
        return following_paper(*things)
    return leaving_paper(*things)


def _is_judged(word, things, value):
    """Whether the judge of the word takes the value for a paper."""
    if word == "barred":
        return is_height_paper(*things, value)
    if word == "within":
        return is_within_paper(*things, value)
    if word == "parted":
        return is_parting_row(*things, value)
    if word == "chooser":
        return is_chooser_paper(*things, value)
    if word == "follows":
        return is_following_paper(*things, value)
    return is_leaving_paper(*things, value)
