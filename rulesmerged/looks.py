"""The looks of a book: what its conditions ask of other rows."""

from rulesmerged.books import read_book


def looks(schema, book):
    """The list of the looks of a book, as tuples (table, column, other, target, condition), as they begin first."""
    return list(read_book(schema, book).looks().values())


def own_looks(schema, book, table):
    """The ascending list of the indexes of the looks of a table's rows."""
    found = looks(schema, book)
    schema.check_table(table)
    return [index for index, look in enumerate(found) if look[0] == table]


def looks_into(schema, book, table, column):
    """The ascending list of the indexes of the looks that lead to a place."""
    found = looks(schema, book)
    schema.check_column(table, column)
    return [index for index, look in enumerate(found) if look[2:4] == (table, column)]


def looks_through(schema, book, kind):
    """The ascending list of the indexes of the looks of a kind of columns; an empty one for any other object."""
    found = looks(schema, book)
    return [index for index, look in enumerate(found) if schema.kind_of(look[0], look[1]) == kind]
