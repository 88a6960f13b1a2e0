"""Marks: of each row history, in one integer, all that decides whether it is struck, and which rules it breaks.

A mark has a bit for each look and version, set if the row history gives the look in the version; behind them a bit for
each rule, set if it breaks the rule in the merge; and behind these, for each column of its table that looks look from
or lead to, a field with a bit for each meeting, set if it does not fit the meeting there. What sets a bit is told by
one version, so the mark of a row history joins, by |, what its moments in the versions add to it.
"""

from itertools import product

from rulesmerged.grounds import is_in
from rulesmerged.meetings import Meetings
from rulesmerged.moments import VERSIONS, moment_number
from rulesmerged.readings import place_from, place_to


class Marks:
    """The marks of the row histories of a book, for its moments."""

    def __init__(self, schema, moments):
        self._moments = moments
        self._added = {}
        self.many_rules = len(moments.breaking)
        self.meetings = Meetings(schema, moments.look_parts)
        # For each table, for each column with a field, its kind and where the field begins.
        self.fields = {}
        used = [place for part in moments.look_parts for place in (place_from(part), place_to(part))]
        for table in schema.tables:
            end, self.fields[table] = len(VERSIONS) * len(moments.look_parts) + self.many_rules, {}
            for column, kind in schema.columns(table):
                if (table, column) in used:
                    self.fields[table][column] = (kind, end)
                    end += self.meetings.known[kind].bit_length()

    def gift_bit(self, index, version):
        """The bit for giving a look in a version."""
        return 1 << (len(VERSIONS) * index + version)

    def breach_bit(self, rule):
        """The bit for breaking a rule in the merge."""
        return 1 << (len(VERSIONS) * len(self._moments.look_parts) + rule)

    def fitting(self, table, column, mark):
        """The mask of the meetings that a row history with a mark fits at a column with a field."""
        kind, start = self.fields[table][column]
        return self.meetings.known[kind] & ~(mark >> start)

    def mark(self, history):
        """The mark of a row history."""
        table, states, answers = history
        mark = 0
        for version in VERSIONS:
            if states[version] is not None:
                mark |= self._moment_mark(table, version, moment_number(states[version], answers[version]))
        return mark

    def of_course(self, table, states):
        """The list of the marks of the row histories with these states, in the ascending order of these."""
        first, second, third, last = [self._moment_marks(table, version, states[version]) for version in VERSIONS]
        return [one | two | three | four for one, two, three, four in product(first, second, third, last)]

    def _moment_marks(self, table, version, state):
        """What the moments that a row may have in a version add to its mark, in the ascending order of these."""
        key = (table, version, state)
        if key not in self._added:
            numbers = self._moments.numbers(table, version, state)
            self._added[key] = [self._moment_mark(table, version, number) for number in numbers]
        return self._added[key]

    def _moment_mark(self, table, version, number):
        """What a moment in a version adds to a mark; nothing for None, a row that is not there."""
        mark = 0
        if number is None:
            return mark
        for column, (kind, start) in self.fields[table].items():
            mark |= self._refused((table, column), kind, version, number) << start
        for index, part in enumerate(self._moments.look_parts):
            if place_to(part)[0] == table and is_in(number, self._moments.giving(index)):
                mark |= self.gift_bit(index, version)
        # Rules are kept in the versions ahead of the merge, so no moment that is asked for breaks one there.
        for rule, (own, breaking) in enumerate(self._moments.breaking):
            if own == table and is_in(number, breaking):
                mark |= self.breach_bit(rule)
        return mark

    def _refused(self, place, kind, version, number):
        """The mask of the meetings of a kind that a row does not fit at a place, by its moment in a version."""
        refused = 0
        for index in self.meetings.through[kind]:
            part, asked = self._moments.look_parts[index], (index, version)
            if place_from(part) == place:
                answer = is_in(number, self._moments.answering(index))
                refused |= self.meetings.refusing[asked] if answer else self.meetings.asking[asked]
            if place_to(part) == place and is_in(number, self._moments.giving(index)):
                refused |= self.meetings.refusing[asked]
        return refused

    def good_meetings(self, left):
        """For each kind the mask of the meetings in which row histories with marks that are left give all asked for."""
        good = dict(self.meetings.known)
        for index, part in enumerate(self._moments.look_parts):
            (table, column), kind = place_to(part), self.meetings.kinds[index]
            _, start = self.fields[table][column]
            for version in VERSIONS:
                given, bit = self.meetings.refusing[(index, version)], self.gift_bit(index, version)
                for mark in left[table]:
                    if mark & bit:
                        given |= ~(mark >> start)
                good[kind] &= given
        return good

    def is_struck(self, table, mark, good):
        """Whether a row history with a mark fits no good meeting at one of its columns."""
        for kind, start in self.fields[table].values():
            if not good[kind] & ~(mark >> start):
                return True
        return False
