"""Books of rules, and which rows break them."""

from rulesmerged.conditions import all_meet, is_condition
from rulesmerged.errors import InvalidBook
from rulesmerged.rows import check_rows

MOST_RULES = 6


def is_rule(schema, thing):
    """Whether an object is a rule of a schema."""
    if not isinstance(thing, tuple) or len(thing) != 2 or not schema.has_table(thing[0]):
        return False
    return is_condition(schema, thing[0], thing[1])


def is_book(schema, thing):
    """Whether an object is a book of a schema."""
    if not isinstance(thing, list) or len(thing) > MOST_RULES:
        return False
    return all([is_rule(schema, rule) for rule in thing])


def check_book(schema, thing):
    """Raises InvalidBook for an object that is no book of a schema."""
    if not is_book(schema, thing):
        raise InvalidBook("this is no book of the schema")


def broken(schema, book, rows):
    """The ascending list of the tuples (index of a rule, index of a row) of the rows that break a rule."""
    check_book(schema, book)
    check_rows(schema, rows)
    pairs = []
    for rule, (table, condition) in enumerate(book):
        for row, met in enumerate(all_meet(schema, rows, table, condition)):
            if not met:
                pairs.append((rule, row))
    return pairs


def keeps(schema, book, rows):
    """Whether no row breaks a rule of a book."""
    return broken(schema, book, rows) == []
