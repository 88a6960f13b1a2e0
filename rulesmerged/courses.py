"""Courses: the states that a row may have in the four versions of a case, by ways and the kinds that are let."""

from rulesmerged.moments import bool_tuples
from rulesmerged.spreads import merged_states


def _put_course(copy, flags):
    """The course of a row that a copy, 0 or 1, put."""
    return (None, flags, None, flags) if copy == 0 else (None, None, flags, flags)


class Courses:
    """The courses of all tables, for ways and the kinds let to the first and the second copy."""

    def __init__(self, schema, ways, lets):
        self._schema = schema
        self._ways = ways
        self._lets = [{kind: True for kind in kinds} for kinds in lets]
        self._told = {}

    def are_let(self, copy, kinds):
        """Whether some kinds of changes are all let to a copy, 0 or 1."""
        return all([kind in self._lets[copy] for kind in kinds])

    def _reach(self, copy, table, flags):
        """The ascending list of the states that a row of the base may have in a copy."""
        reach = [()]
        for at, flag in enumerate(self._schema.flags(table)):
            turn = ("off" if flags[at] else "on", table, flag)
            ends = (False, True) if turn in self._lets[copy] else (flags[at],)
            reach = [each + (end,) for each in reach for end in ends]
        return [None] + reach if ("drop", table) in self._lets[copy] else reach

    def of_table(self, table):
        """The ascending list of the courses of a table."""
        if table not in self._told:
            self._told[table] = self._put_courses(table) + self._kept_courses(table)
        return self._told[table]

    def _put_courses(self, table):
        own = bool_tuples(len(self._schema.flags(table)))
        return [_put_course(copy, flags) for copy in (1, 0) if ("put", table) in self._lets[copy] for flags in own]

    def _kept_courses(self, table):
        """The courses of rows of the base."""
        copied = []
        for flags in bool_tuples(len(self._schema.flags(table))):
            reach = [self._reach(copy, table, flags) for copy in (0, 1)]
            copied.extend([(flags, first, second) for first in reach[0] for second in reach[1]])
        base, first, second = [list(states) for states in zip(*copied)]
        ends = merged_states(self._ways[table], base, [first, second])
        return [states + (end,) for states, end in zip(copied, ends)]

    def is_course(self, table, states):
        """Whether states of a table, one for each version, are one of its courses."""
        base, first, second, last = states
        if base is None:
            copy = 0 if second is None else 1
            return last is not None and ("put", table) in self._lets[copy] and states == _put_course(copy, last)
        if first not in self._reach(0, table, base) or second not in self._reach(1, table, base):
            return False
        return merged_states(self._ways[table], [base], [[first], [second]]) == [last]
