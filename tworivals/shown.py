"""By what a row is shown to be let by or not, and the first rows of either kind [2b4], [2b5]."""

from tworivals.basics import is_pair
from tworivals.checks import check_row
from tworivals.heights import height_paper, is_height_paper
from tworivals.readers import check_reader
from tworivals.rows import rows_to
from tworivals.runs import clean_run, is_run, lets_by, slips_of


def shown(reader, row):
    """The tuple ("let", run) or ("barred", heights) that shows the row."""
    run = clean_run(reader, row)
    if run is not None:
        return "let", run
    return "barred", height_paper(reader, row)


def is_shown(reader, row, value):
    """Whether the value shows the row."""
    check_reader(reader)
    check_row(reader.letters, row)
    if not is_pair(value) or not isinstance(value[0], str):
        return False
    word, paper = value
    if word == "let":
        return is_run(reader, row, paper) and slips_of(reader, paper)[1] == 0
    return word == "barred" and is_height_paper(reader, row, paper)


def all_let(reader, many):
    """The list of the rows of `rows_to` that are let by."""
    check_reader(reader)
    return [row for row in rows_to(reader.letters, many) if lets_by(reader, row)]


def all_barred(reader, many):
    """The list of the rows of `rows_to` that aren't let by."""
    check_reader(reader)
    return [row for row in rows_to(reader.letters, many) if not lets_by(reader, row)]


def first_let(reader, many):
    """The first row of `rows_to` that is let by, None if there is none."""
    check_reader(reader)
    for row in rows_to(reader.letters, many):
        if lets_by(reader, row):
            return row
    return None


def first_barred(reader, many):
    """The first row of `rows_to` that isn't let by, None if there is none."""
    check_reader(reader)
    for row in rows_to(reader.letters, many):
        if not lets_by(reader, row):
            return row
    return None
