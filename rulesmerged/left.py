"""Which row histories are struck and which are left, and cases in which rows have those that are left."""

from rulesmerged.builds import Build
from rulesmerged.histories import check_history
from rulesmerged.marks import Marks
from rulesmerged.strikes import Strikes
from rulesmerged.terms import terms_of


class Outcome:
    """The row histories of terms with their marks, and which of these are struck."""

    def __init__(self, terms):
        self._terms = terms
        self._marks = marks_of(terms)
        self._strikes = Strikes(terms.courses, self._marks, terms.schema.tables)
        self._strikes.strike_all()

    def _marked(self, table):
        """The ascending list of the tuples (row history, mark) of a table."""
        courses = self._terms.courses.of_table(table)
        marks = [mark for states in courses for mark in self._marks.of_course(table, states)]
        return list(zip(self._terms.histories(table), marks))

    def all_rounds(self):
        """The dict from the row histories that are struck to the numbers of their rounds."""
        rounds = {}
        for table, numbers in self._strikes.rounds.items():
            if numbers:
                for history, mark in self._marked(table):
                    if mark in numbers:
                        rounds[history] = numbers[mark]
        return rounds

    def left_of(self, table):
        """The ascending list of the row histories of a table that are left."""
        return [history for history, mark in self._marked(table) if mark not in self._strikes.rounds[table]]

    def case_with(self, history):
        """What the function of this name tells."""
        table, states, _ = history
        mark = self._marks.mark(history)
        if mark in self._strikes.rounds[table]:
            return None
        return Build(self._terms.schema, self._terms.courses, self._marks, self._strikes).case_of(table, states, mark)


def marks_of(terms):
    """The marks of the row histories of terms."""
    return Marks(terms.schema, terms.versions, [], [])


def rounds_of_histories(schema, book, ways, lets):
    """The dict from the row histories that are struck to the numbers of their rounds."""
    return Outcome(terms_of(schema, book, ways, lets)).all_rounds()


def histories_left(schema, book, ways, lets, table):
    """The ascending list of the row histories of a table that are left."""
    terms = terms_of(schema, book, ways, lets)
    schema.check_table(table)
    return Outcome(terms).left_of(table)


def case_with(schema, book, ways, lets, history):
    """A tuple (base, copies, row) of a case and the name of a row that has a row history, or None if it is struck."""
    terms = terms_of(schema, book, ways, lets)
    check_history(terms, history)
    return Outcome(terms).case_with(history)
