"""Moments: all that a row may be in one version, its flags and its answers to the looks of its table.

The moments of a table are numbered in the ascending order of the tuples flags + answers, so that conditions can be told
of all of them at once, by masks of these numbers.
"""

from rulesmerged.grounds import all_told, bit_mask, is_in
from rulesmerged.readings import place_to

# The versions of a case are the base, both copies, and the merge, the only one in which rules may be broken.
VERSIONS = (0, 1, 2, 3)
MERGE = 3


def bool_tuples(many):
    """The ascending list of the tuples of so many bools."""
    tuples = [()]
    for _ in range(many):
        tuples = [each + (last,) for each in tuples for last in (False, True)]
    return tuples


def moment_number(flags, answers):
    """The number of a moment."""
    number = 0
    for each in flags + answers:
        number += number + each
    return number


class Moments:
    """The moments of all tables, for a book that was taken apart, and what its conditions are in them."""

    def __init__(self, schema, read):
        self.look_parts = list(read.looks())
        self.own, self.there, self._masks, self._answers = {}, {}, {}, {}
        for table in schema.tables:
            own = [index for index, part in enumerate(self.look_parts) if part[0] == table]
            names = [(table, flag) for flag in schema.flags(table)] + [self.look_parts[index] for index in own]
            for at, name in enumerate(names):
                self._masks[name] = bit_mask(len(names) - 1 - at, len(names))
            self.own[table] = own
            self.there[table] = (1 << (1 << len(names))) - 1
            self._answers[table] = bool_tuples(len(own))
        self._told = all_told(self, read.parts)
        # For each rule, its table and the moments that break it.
        self.breaking = [(table, self.there[table] ^ self._told[number]) for table, number in read.rules]
        self._allowed = {table: self.there[table] for table in self.there}
        for table, mask in self.breaking:
            self._allowed[table] &= ~mask

    def flag_mask(self, table, flag):
        """The moments of a table that have a flag."""
        return self._masks[(table, flag)]

    def look_mask(self, part, _):
        """The moments in which a look is answered with True; here it does not hang on what it finds."""
        return self._masks[part]

    def answering(self, index):
        """The moments, of the table whose rows look, in which a look is answered with True."""
        return self._masks[self.look_parts[index]]

    def giving(self, index):
        """The moments, of the table to which a look leads, that meet its condition."""
        return self._told[self.look_parts[index][5]]

    def gives(self, table, index, flags, answers):
        """Whether a row of a table gives a look in a version in which it has these flags and answers."""
        other, _ = place_to(self.look_parts[index])
        return other == table and is_in(moment_number(flags, answers), self.giving(index))

    def is_allowed(self, table, version, flags, answers):
        """Whether the rules let a row of a table have these flags and answers in a version."""
        return version == MERGE or is_in(moment_number(flags, answers), self._allowed[table])

    def numbers(self, table, version, state):
        """The ascending list of the moments that the rules let a row have in a version; [None] if it is not there."""
        if state is None:
            return [None]
        allowed = self.there[table] if version == MERGE else self._allowed[table]
        many = len(self._answers[table])
        first = moment_number(state, ()) * many
        return [number for number in range(first, first + many) if is_in(number, allowed)]

    def all_answers(self, table, states):
        """For each version the ascending list of the answers that the rules let a row have, by its states."""
        found = []
        for version, state in enumerate(states):
            numbers = self.numbers(table, version, state)
            found.append([None if number is None else self._answers_in(table, number) for number in numbers])
        return found

    def _answers_in(self, table, number):
        return self._answers[table][number & (len(self._answers[table]) - 1)]
