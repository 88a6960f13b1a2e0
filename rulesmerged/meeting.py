"""Conditions that all rows of merges meet, and cases in which some row does not."""

from rulesmerged.books import read_book
from rulesmerged.copies import check_lets
from rulesmerged.errors import InvalidCondition
from rulesmerged.merges import check_ways
from rulesmerged.searches import Search


def read_asked(schema, book, ways, lets, table, condition):
    """The book, taken apart with the condition, and the tuple (table, number of the part of the condition)."""
    read = read_book(schema, book)
    check_ways(schema, ways)
    check_lets(schema, lets)
    schema.check_table(table)
    number = read.number(table, condition)
    if number is None:
        raise InvalidCondition("this is no condition of the table")
    return read, (table, number)


def always(schema, book, ways, lets, table, condition):
    """Whether in all cases all rows of a table in the merge meet a condition."""
    read, asked = read_asked(schema, book, ways, lets, table, condition)
    return Search(schema, read.parts, read.rules, [asked], []).is_met(ways, lets)


def case_against(schema, book, ways, lets, table, condition):
    """A tuple (base, copies, row) of a case and the name of a row of the merge that does not meet it, or None."""
    read, asked = read_asked(schema, book, ways, lets, table, condition)
    return Search(schema, read.parts, read.rules, [asked], []).case(ways, lets)
