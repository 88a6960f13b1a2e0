"""What the document says of what merged rows meet, in the plainest way; slow, and apart."""

from tests import reference, reference_histories

YES = ('yes',)


def asked_of(book, table, condition):
    """The book and a rule that all rows meet, in which there are the looks of a condition."""
    return book + [(table, ('or', YES, condition))]


def breaks_there(tables, asked, history, condition):
    """Whether a row history, of a book that asked_of told, is there in the merge and does not meet the condition."""
    table, states, answers = history
    if states[3] is None:
        return False
    return not reference_histories.own_meets(tables, asked, table, states[3], answers[3], condition)


def always(tables, book, ways, lets, table, condition):
    asked = asked_of(book, table, condition)
    striking = reference_histories.Striking(tables, asked, ways, lets)
    rounds = striking.rounds()
    return not any(history[0] == table and history not in rounds and breaks_there(tables, asked, history, condition)
                   for history in striking.histories)


def rows_not_meeting(tables, rows, table, condition):
    return [row for row in rows[table] if not reference.meets(tables, rows, table, row, condition)]
