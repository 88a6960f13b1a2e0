"""Marks: of each row history, in one integer, all that decides whether it is struck, and what it breaks in the end.

A look that is asked in a version is a question here, a tuple (part, version). A meeting has a number, in which a bit is
set for each question of its kind that it answers with True; so many meetings at once are a mask of numbers.

A mark has a bit for each question, set if the row history gives the look in the version; behind them a bit for each
condition that is asked for, set if it does not meet it in the last version; and behind these, for each column of its
table that looks look from or lead to, a field with a bit for each meeting, set if it does not fit the meeting there.
What sets a bit is told by one version, so the mark joins, by |, what the moments in the versions add to it.
"""

from itertools import product

from rulesmerged.grounds import bit_mask
from rulesmerged.moments import MERGE, moment_number
from rulesmerged.readings import place_from, place_to


class Meetings:
    """The meetings of the kinds of columns through which looks look."""

    def __init__(self, schema, questions):
        # For each kind its questions, and the mask of its meetings.
        self.through, self.known = {}, {}
        # For each question the masks of the meetings that answer it with True and with False.
        self.asking, self.refusing = {}, {}
        for part, version in questions:
            self.through.setdefault(schema.kind_at(place_from(part)), []).append((part, version))
        for kind, own in self.through.items():
            self.known[kind] = (1 << (1 << len(own))) - 1
            for bit, question in enumerate(own):
                self.asking[question] = bit_mask(bit, len(own))
                self.refusing[question] = self.known[kind] ^ self.asking[question]


class Marks:
    """The marks of row histories whose moments are told for each version, that of the merge and those behind it.

    A deed is done between the merge and the version behind it, or between two versions behind it: a tuple
    (word, table, index of a flag or None, number of a condition). What is asked for are tuples (table, number).
    """

    def __init__(self, schema, versions, asked, deeds):
        self._versions = versions
        self._asked = asked
        self._deeds = deeds
        self._added, self._of_courses = {}, {}
        questions = [(part, version) for version, moments in enumerate(versions) for part in moments.look_parts]
        self.meetings = Meetings(schema, questions)
        self._gift_bits = {question: 1 << bit for bit, question in enumerate(questions)}
        self._first_breach_bit = 1 << len(questions)
        # For each table, for each column with a field, its kind and where the field begins.
        self.fields = {}
        used = [place for part, _ in questions for place in (place_from(part), place_to(part))]
        for table in schema.tables:
            end, self.fields[table] = len(questions) + len(asked), {}
            for column, kind in schema.columns(table):
                if (table, column) in used:
                    self.fields[table][column] = (kind, end)
                    end += self.meetings.known[kind].bit_length()

    def gift_bit(self, question):
        """The bit for giving a look in a version."""
        return self._gift_bits[question]

    def breach_bit(self, index):
        """The bit for not meeting, in the last version, the condition with an index among those asked for."""
        return self._first_breach_bit << index

    def broken_by(self, mark):
        """The ascending list of the indexes of the conditions, of those asked for, whose bits are set."""
        return [index for index in range(len(self._asked)) if mark & self.breach_bit(index)]

    def fitting(self, table, column, mark):
        """The mask of the meetings that a row history with a mark fits at a column with a field."""
        kind, start = self.fields[table][column]
        return self.meetings.known[kind] & ~(mark >> start)

    def mark(self, history):
        """The mark of a row history of the four versions of a case."""
        table, states, answers = history
        mark = 0
        for version, state in enumerate(states):
            if state is not None:
                mark |= self._moment_mark(table, version, moment_number(state, answers[version]))
        return mark

    def of_course(self, table, states):
        """The list of the marks of the row histories with a course, in the ascending order of these."""
        key = (table, states)
        if key not in self._of_courses:
            first, second, third, last = [self._marks_from(table, at, state) for at, state in enumerate(states)]
            found = [one | two | three | four for one, two, three, four in product(first, second, third, last)]
            self._of_courses[key] = found
        return self._of_courses[key]

    def _marks_from(self, table, version, state):
        """What a row's moments in a version, and behind the merge those in the later ones, may add to its mark."""
        key = (table, version, state)
        if key not in self._added:
            self._added[key] = self._all_from(table, version, state)
        return self._added[key]

    def _all_from(self, table, version, state):
        found, deed = [], version - MERGE
        for number in self._versions[version].allowed(table, state):
            mark = self._moment_mark(table, version, number)
            if 0 <= deed < len(self._deeds):
                then = self._state_after(self._deeds[deed], table, version, state, number)
                found.extend([mark | more for more in self._marks_from(table, version + 1, then)])
            else:
                found.append(mark)
        return found

    def _state_after(self, deed, table, version, state, number):
        """The state that a row has behind a deed, by its state and its moment ahead of it."""
        word, own, at, condition = deed
        if own != table or state is None:
            return state
        is_met = self._versions[version].is_met(condition, number)
        if word == "drop":
            return None if is_met else state
        return state[:at] + (is_met,) + state[at + 1:]

    def _moment_mark(self, table, version, number):
        """What a moment in a version adds to a mark; nothing for None, a row that is not there."""
        mark = 0
        if number is None:
            return mark
        moments = self._versions[version]
        for column, (kind, start) in self.fields[table].items():
            mark |= self._refused((table, column), kind, version, number) << start
        for part in moments.look_parts:
            if moments.is_given(part, table, number):
                mark |= self.gift_bit((part, version))
        if version == len(self._versions) - 1:
            for index, (own, condition) in enumerate(self._asked):
                if own == table and not moments.is_met(condition, number):
                    mark |= self.breach_bit(index)
        return mark

    def _refused(self, place, kind, version, number):
        """The mask of the meetings of a kind that a row does not fit at a place, by its moment in a version."""
        refused, moments = 0, self._versions[version]
        for question in self.meetings.through[kind]:
            part, asked_in = question
            if asked_in != version:
                continue
            if place_from(part) == place:
                answer = moments.is_answered(part, number)
                refused |= self.meetings.refusing[question] if answer else self.meetings.asking[question]
            if place_to(part) == place and moments.is_given(part, place[0], number):
                refused |= self.meetings.refusing[question]
        return refused

    def good_meetings(self, left):
        """For each kind the mask of the meetings in which row histories with marks that are left give all asked for."""
        good = dict(self.meetings.known)
        for kind, questions in self.meetings.through.items():
            for question in questions:
                table, column = place_to(question[0])
                _, start = self.fields[table][column]
                given, bit = self.meetings.refusing[question], self.gift_bit(question)
                for mark in left[table]:
                    if mark & bit:
                        given |= ~(mark >> start)
                good[kind] &= given
        return good

    def is_struck(self, table, mark, good):
        """Whether a row history with a mark fits no good meeting at one of its columns."""
        for kind, start in self.fields[table].values():
            if not good[kind] & ~(mark >> start):
                return True
        return False
