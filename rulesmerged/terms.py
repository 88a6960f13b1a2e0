"""What row histories hang on: a book, ways, and the kinds of changes that are let to two copies."""

from itertools import product

from rulesmerged.books import read_book
from rulesmerged.copies import check_lets
from rulesmerged.merges import check_ways
from rulesmerged.moments import VERSIONS, Moments, bool_tuples
from rulesmerged.rows import are_bools
from rulesmerged.spreads import merged_states


def _put_course(copy, flags):
    """The states, in the four versions, of a row that a copy, 0 or 1, put."""
    return (None, flags, None, flags) if copy == 0 else (None, None, flags, flags)


class Terms:
    """A schema, a book that was taken apart, its moments, ways, and the kinds let to the first and the second copy."""

    def __init__(self, schema, read, moments, ways, lets):
        self.schema = schema
        self.read = read
        self.moments = moments
        self.ways = ways
        self._lets = [{kind: True for kind in kinds} for kinds in lets]
        self._courses = {}

    def are_let(self, copy, kinds):
        """Whether some kinds of changes are all let to a copy, 0 or 1."""
        return all([kind in self._lets[copy] for kind in kinds])

    def _reach(self, copy, table, flags):
        """The ascending list of the states that a row of the base may have in a copy."""
        reach = [()]
        for at, flag in enumerate(self.schema.flags(table)):
            turn = ("off" if flags[at] else "on", table, flag)
            ends = (False, True) if turn in self._lets[copy] else (flags[at],)
            reach = [each + (end,) for each in reach for end in ends]
        return [None] + reach if ("drop", table) in self._lets[copy] else reach

    def courses(self, table):
        """The ascending list of the courses of a table: the states that a row may have in the four versions."""
        if table not in self._courses:
            self._courses[table] = self._put_courses(table) + self._kept_courses(table)
        return self._courses[table]

    def _put_courses(self, table):
        own = bool_tuples(len(self.schema.flags(table)))
        return [_put_course(copy, flags) for copy in (1, 0) if ("put", table) in self._lets[copy] for flags in own]

    def _kept_courses(self, table):
        """The courses of rows of the base."""
        copied = []
        for flags in bool_tuples(len(self.schema.flags(table))):
            reach = [self._reach(copy, table, flags) for copy in (0, 1)]
            copied.extend([(flags, first, second) for first in reach[0] for second in reach[1]])
        base, first, second = [list(states) for states in zip(*copied)]
        ends = merged_states(self.ways[table], base, [first, second])
        return [states + (end,) for states, end in zip(copied, ends)]

    def _is_course(self, table, states):
        base, first, second, last = states
        if base is None:
            copy = 0 if second is None else 1
            return last is not None and ("put", table) in self._lets[copy] and states == _put_course(copy, last)
        if first not in self._reach(0, table, base) or second not in self._reach(1, table, base):
            return False
        return merged_states(self.ways[table], [base], [[first], [second]]) == [last]

    def histories(self, table):
        """The ascending list of the row histories of a table."""
        found = []
        for states in self.courses(table):
            first, second, third, last = self.moments.all_answers(table, states)
            found.extend([(table, states, answers) for answers in product(first, second, third, last)])
        return found

    def has_history(self, thing):
        """Whether an object is a row history."""
        if not isinstance(thing, tuple) or len(thing) != 3 or not self.schema.has_table(thing[0]):
            return False
        table, states, answers = thing
        for each in (states, answers):
            if not isinstance(each, tuple) or len(each) != len(VERSIONS):
                return False
        for version in VERSIONS:
            if not self._is_moment(table, version, states[version], answers[version]):
                return False
        return self._is_course(table, states)

    def _is_moment(self, table, version, state, answers):
        """Whether objects are the flags and the answers of a row in a version, both None if it is not there."""
        if state is None:
            return answers is None
        _, many_flags = self.schema.sizes(table)
        if not are_bools(state, many_flags) or not are_bools(answers, len(self.moments.own[table])):
            return False
        return self.moments.is_allowed(table, version, state, answers)


def terms_of(schema, book, ways, lets):
    """The terms of a book, ways and lets; InvalidBook, InvalidWays or InvalidLets for other objects."""
    read = read_book(schema, book)
    check_ways(schema, ways)
    check_lets(schema, lets)
    return Terms(schema, read, Moments(schema, read), ways, lets)
