"""All ways of merging, and those by which a list of kinds of changes is free."""

from rulesmerged.books import read_book
from rulesmerged.copies import check_kinds
from rulesmerged.merges import DROP_WORDS, FLAG_WORDS
from rulesmerged.searches import book_search


def all_ways(schema):
    """The list of all ways of a schema, in the ascending order of what they have for the tables."""
    found = [{}]
    for table in schema.tables:
        found = [{**ways, table: way} for ways in found for way in _table_ways(len(schema.flags(table)))]
    return found


def _table_ways(many_flags):
    """The ascending list of the ways of a table with so many flags."""
    words = [()]
    for _ in range(many_flags):
        words = [each + (word,) for each in words for word in sorted(FLAG_WORDS)]
    return [(drop, each) for drop in sorted(DROP_WORDS) for each in words]


def good_ways(schema, book, kinds):
    """The list of the ways by which a list of kinds is free, in the same order."""
    search = book_search(schema, read_book(schema, book))
    check_kinds(schema, kinds)
    return [ways for ways in all_ways(schema) if search.is_met(ways, (kinds, kinds))]
