"""Lists of kinds of changes that need no agreeing: with which a book is kept by merging."""

from rulesmerged.books import read_book
from rulesmerged.copies import check_kinds
from rulesmerged.merges import check_ways
from rulesmerged.searches import book_search
from rulesmerged.subsets import Subsets


class Freedom:
    """A book and ways, asked for many lists of kinds."""

    def __init__(self, schema, book, ways):
        self._search = book_search(schema, read_book(schema, book))
        check_ways(schema, ways)
        self._ways = ways

    def is_free(self, kinds):
        """Whether a list of kinds is free."""
        return self._search.is_met(self._ways, (kinds, kinds))

    def is_bad(self, kinds):
        """Whether a list of kinds is not free."""
        return not self.is_free(kinds)


def is_free(schema, book, ways, kinds):
    """Whether a list of kinds is free."""
    freedom = Freedom(schema, book, ways)
    check_kinds(schema, kinds)
    return freedom.is_free(kinds)


def greatest_free(schema, book, ways):
    """The ascending list of the ascending lists of kinds that are free, but not with any further kind."""
    freedom = Freedom(schema, book, ways)
    return Subsets(schema.changes, freedom.is_bad).greatest_without()


def least_bad(schema, book, ways):
    """The ascending list of the ascending lists of kinds that are not free, but are if any of them is left out."""
    freedom = Freedom(schema, book, ways)
    return Subsets(schema.changes, freedom.is_bad).least()
