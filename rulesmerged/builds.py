"""Building a case in which a row has a row history that is left.

Each value of the case stands for a good meeting of its kind. A row has in each column a value whose meeting its row
history fits there, and for all that a meeting asks for there is a row that has the value and gives it. So the rows find
what their row histories say, and keep the rules where these keep them.
"""

from rulesmerged.grounds import is_in
from rulesmerged.readings import place_to


class Build:
    """The rows of a case, as far as it is built."""

    def __init__(self, schema, courses, marks, strikes):
        self._schema = schema
        self._courses = courses
        self._marks = marks
        self._strikes = strikes
        self._samples = {}
        # For each table the tuples (states, values) of the rows.
        self._rows = {table: [] for table in schema.tables}
        # The values by (kind, number of the meeting), and for each kind the mask of the meetings that have a value.
        self._values, self._used = {}, {kind: 0 for kind in marks.meetings.known}
        # What rows give, as (number of the meeting, question), and the meetings not yet provided for.
        self._given, self._unmet = {}, []

    def case_of(self, table, states, mark):
        """The tuple (base, copies, row) of a case and the name of a row of it with a course and a mark that is left."""
        self._add(table, states, mark, {})
        while self._unmet:
            kind, meeting = self._unmet.pop()
            for question in self._marks.meetings.through[kind]:
                self._give(meeting, question)
        base, copies = self._written()
        # It was added first, so it stands first among the rows beside it.
        if states[0] is not None:
            return base, copies, (table, 0, 0)
        return base, copies, (table, 2 if states[1] is None else 1, 0)

    def case_that_breaks(self, table, index):
        """What case_of tells of any row that breaks the condition of its table with an index among those asked for."""
        breaking = [mark for mark in self._strikes.left[table] if mark & self._marks.breach_bit(index)]
        return self.case_of(table, self._sample(table, breaking[0]), breaking[0])

    def _add(self, table, states, mark, chosen):
        """Adds a row with a course and a mark; chosen tells the meeting of one of its columns, or of none."""
        meetings = {}
        for column, _ in self._schema.columns(table):
            meetings[column] = chosen[column] if column in chosen else self._fitting_meeting(table, column, mark)
        values = [self._value(kind, meetings[column]) for column, kind in self._schema.columns(table)]
        self._rows[table].append((states, tuple(values)))
        for questions in self._marks.meetings.through.values():
            for question in questions:
                other, target = place_to(question[0])
                if other == table and mark & self._marks.gift_bit(question):
                    self._given[(meetings[target], question)] = True

    def _fitting_meeting(self, table, column, mark):
        """The number of a good meeting that a row with a mark fits at a column, if there is one of one with a value."""
        # Where no looks look from and none lead to, a row fits all meetings; the first one asks for nothing.
        if column not in self._marks.fields[table]:
            return 0
        kind, _ = self._marks.fields[table][column]
        fitting = self._marks.fitting(table, column, mark) & self._strikes.good[kind]
        best = (fitting & self._used[kind]) or fitting
        return (best & -best).bit_length() - 1

    def _value(self, kind, meeting):
        key = (kind, meeting)
        if key not in self._values:
            self._values[key] = len(self._values)
            if kind in self._used:
                self._used[kind] |= 1 << meeting
                self._unmet.append(key)
        return self._values[key]

    def _give(self, meeting, question):
        """Adds a row that gives a look in a version, if a meeting asks for it and no row gives it yet."""
        if (meeting, question) in self._given or not is_in(meeting, self._marks.meetings.asking[question]):
            return
        table, column = place_to(question[0])
        for mark in self._strikes.left[table]:
            gives = mark & self._marks.gift_bit(question)
            if gives and is_in(meeting, self._marks.fitting(table, column, mark)):
                self._add(table, self._sample(table, mark), mark, {column: meeting})
                return

    def _sample(self, table, mark):
        """A course of a table of which a row history has a mark."""
        if table not in self._samples:
            self._samples[table] = {}
            for states in self._courses.of_table(table):
                for own in self._marks.of_course(table, states):
                    self._samples[table][own] = states
        return self._samples[table][mark]

    def _written(self):
        """The tuple (base, copies) of the rows."""
        tables = self._schema.tables
        base, copies = {table: [] for table in tables}, [{table: ([], []) for table in tables} for _ in (0, 1)]
        for table in tables:
            (first_states, first_put), (second_states, second_put) = copies[0][table], copies[1][table]
            for (flags, first, second, _), values in self._rows[table]:
                if flags is not None:
                    base[table].append((values, flags))
                    first_states.append(first)
                    second_states.append(second)
                elif first is not None:
                    first_put.append((values, first))
                else:
                    second_put.append((values, second))
        return base, copies
