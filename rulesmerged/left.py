"""Which row histories are struck and which are left, and cases in which rows have those that are left."""

from rulesmerged.builds import Build
from rulesmerged.histories import check_history
from rulesmerged.strikes import marked_histories, struck_of
from rulesmerged.terms import terms_of


def rounds_of_histories(schema, book, ways, lets):
    """The dict from the row histories that are struck to the numbers of their rounds."""
    return rounds_in(terms_of(schema, book, ways, lets))


def rounds_in(terms):
    """What rounds_of_histories tells, of terms."""
    marks, strikes = struck_of(terms)
    rounds = {}
    for table in terms.schema.tables:
        numbers = strikes.rounds[table]
        if numbers:
            for history, mark in marked_histories(terms, marks, table):
                if mark in numbers:
                    rounds[history] = numbers[mark]
    return rounds


def histories_left(schema, book, ways, lets, table):
    """The ascending list of the row histories of a table that are left."""
    terms = terms_of(schema, book, ways, lets)
    schema.check_table(table)
    marks, strikes = struck_of(terms)
    return [history for history, mark in marked_histories(terms, marks, table) if mark not in strikes.rounds[table]]


def case_with(schema, book, ways, lets, history):
    """A tuple (base, copies, row) of a case and the name of a row that has a row history, or None if it is struck."""
    terms = terms_of(schema, book, ways, lets)
    check_history(terms, history)
    marks, strikes = struck_of(terms)
    if marks.mark(history) in strikes.rounds[history[0]]:
        return None
    return Build(terms, marks, strikes).case_of(history)
