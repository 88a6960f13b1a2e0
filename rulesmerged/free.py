"""Lists of kinds of changes that need no agreeing: with which a book is kept by merging."""

from rulesmerged.books import read_book
from rulesmerged.copies import are_kinds
from rulesmerged.errors import InvalidKinds
from rulesmerged.marks import Marks
from rulesmerged.merges import check_ways
from rulesmerged.moments import Moments
from rulesmerged.strikes import Strikes
from rulesmerged.terms import Terms


class Freedom:
    """A book and ways, asked for many lists of kinds."""

    def __init__(self, schema, book, ways):
        self._schema = schema
        self._ways = ways
        self._read = read_book(schema, book)
        check_ways(schema, ways)
        self._moments = Moments(schema, self._read)
        self._marks = Marks(schema, self._moments)

    def is_free(self, kinds):
        """Whether a list of kinds is free."""
        terms = Terms(self._schema, self._read, self._moments, self._ways, (kinds, kinds))
        return Strikes(terms, self._marks).rules_broken(self._marks) == []

    def told(self):
        """Whether lists of kinds are free, by their numbers, in which bit i is set for the kind with index i."""
        kinds = self._schema.changes
        if self.is_free(kinds):
            return [True] * (1 << len(kinds))
        told = []
        for number in range(1 << len(kinds)):
            # What is not free with fewer kinds is not free with more of them.
            fewer = all([told[less] for less in _with_fewer(number, len(kinds))])
            told.append(fewer and self.is_free(self._chosen(number)))
        return told

    def lists(self, numbers):
        """The ascending list of the ascending lists of kinds with some numbers."""
        return sorted([self._chosen(number) for number in numbers])

    def _chosen(self, number):
        return [kind for at, kind in enumerate(self._schema.changes) if number >> at & 1]


def _with_fewer(number, many):
    """The numbers, of so many bits, in which one bit less is set."""
    return [number ^ (1 << at) for at in range(many) if number >> at & 1]


def _with_more(number, many):
    """The numbers, of so many bits, in which one bit more is set."""
    return [number | (1 << at) for at in range(many) if not number >> at & 1]


def is_free(schema, book, ways, kinds):
    """Whether a list of kinds is free."""
    freedom = Freedom(schema, book, ways)
    if not are_kinds(schema, kinds):
        raise InvalidKinds("this is no list of different kinds of changes")
    return freedom.is_free(kinds)


def greatest_free(schema, book, ways):
    """The ascending list of the ascending lists of kinds that are free, but not with any further kind."""
    freedom, many = Freedom(schema, book, ways), len(schema.changes)
    told = freedom.told()
    free = [number for number, is_so in enumerate(told) if is_so]
    return freedom.lists([number for number in free if not any([told[more] for more in _with_more(number, many)])])


def least_bad(schema, book, ways):
    """The ascending list of the ascending lists of kinds that are not free, but are if any of them is left out."""
    freedom, many = Freedom(schema, book, ways), len(schema.changes)
    told = freedom.told()
    bad = [number for number, is_so in enumerate(told) if not is_so]
    return freedom.lists([number for number in bad if all([told[less] for less in _with_fewer(number, many)])])
