"""Moments: all that a row may be in one version, its flags and its answers to the looks that are asked there.

The moments of a table are numbered in the ascending order of the tuples flags + answers, so that conditions can be told
of all of them at once, by masks of these numbers.
"""

from rulesmerged.grounds import all_told, bit_mask, is_in
from rulesmerged.readings import place_to

# The versions of a case are the base, both copies, and the merge, the only one in which rules may be broken.
VERSIONS = (0, 1, 2, 3)
MERGE = 3


def bool_tuples(many):
    """The ascending list of the tuples of so many bools."""
    tuples = [()]
    for _ in range(many):
        tuples = [each + (last,) for each in tuples for last in (False, True)]
    return tuples


def moment_number(flags, answers):
    """The number of a moment."""
    number = 0
    for each in flags + answers:
        number += number + each
    return number


class Moments:
    """The moments of all tables in versions in which the rows answer some looks and keep some rules, perhaps none."""

    def __init__(self, schema, parts, looks, rules):
        self.look_parts = looks
        self.own, self.there, self._masks, self._answers = {}, {}, {}, {}
        for table in schema.tables:
            self.own[table] = [part for part in looks if part[0] == table]
            names = [(table, flag) for flag in schema.flags(table)] + self.own[table]
            for at, name in enumerate(names):
                self._masks[name] = bit_mask(len(names) - 1 - at, len(names))
            self.there[table] = (1 << (1 << len(names))) - 1
            self._answers[table] = bool_tuples(len(self.own[table]))
        self._told = all_told(self, parts)
        self._allowed = {table: self.there[table] for table in self.there}
        for table, number in rules:
            self._allowed[table] &= self._told[number]

    def flag_mask(self, table, flag):
        """The moments of a table that have a flag."""
        return self._masks[(table, flag)]

    def look_mask(self, part, _):
        """The moments in which a look is answered with True; here it does not hang on what it finds."""
        # Of conditions with looks that are not asked here nothing is told, so it does not matter what they are.
        return self._masks.get(part, 0)

    def is_met(self, number, moment):
        """Whether a condition, by its number, is met in a moment of its table."""
        return is_in(moment, self._told[number])

    def is_answered(self, part, moment):
        """Whether a look is answered with True in a moment of the table whose rows look."""
        return is_in(moment, self._masks[part])

    def is_given(self, part, table, moment):
        """Whether a row of a table gives a look in a moment."""
        other, _ = place_to(part)
        return other == table and is_in(moment, self._told[part[5]])

    def is_allowed(self, table, moment):
        """Whether the rules let a row of a table have a moment."""
        return is_in(moment, self._allowed[table])

    def allowed(self, table, state):
        """The ascending list of the moments that the rules let a row have by its state; [None] if it is not there."""
        if state is None:
            return [None]
        many = len(self._answers[table])
        first = moment_number(state, ()) * many
        return [number for number in range(first, first + many) if is_in(number, self._allowed[table])]

    def answers_of(self, table, state):
        """The ascending list of the answers that the rules let a row have by its state; [None] if it is not there."""
        numbers = self.allowed(table, state)
        return [None if number is None else self._answers_in(table, number) for number in numbers]

    def _answers_in(self, table, number):
        return self._answers[table][number & (len(self._answers[table]) - 1)]
