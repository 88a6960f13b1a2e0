"""Rows of a schema."""

from rulesmerged.errors import InvalidRows
from rulesmerged.schemas import has_just_tables


def is_number(thing):
    """Whether an object is an integer from 0 on, as values and indexes are."""
    return type(thing) is int and thing >= 0


def are_bools(thing, many):
    """Whether an object is a tuple of so many bools."""
    if not isinstance(thing, tuple) or len(thing) != many:
        return False
    for each in thing:
        if not isinstance(each, bool):
            return False
    return True


def _is_row(thing, many_values, many_flags):
    if not isinstance(thing, tuple) or len(thing) != 2:
        return False
    values, flags = thing
    if not isinstance(values, tuple) or not isinstance(flags, tuple):
        return False
    if len(values) != many_values or len(flags) != many_flags:
        return False
    for value in values:
        if type(value) is not int or value < 0:
            return False
    for flag in flags:
        if not isinstance(flag, bool):
            return False
    return True


def are_table_rows(schema, table, thing):
    """Whether an object is a list of rows of a table."""
    if not isinstance(thing, list):
        return False
    many_values, many_flags = schema.sizes(table)
    for row in thing:
        if not _is_row(row, many_values, many_flags):
            return False
    return True


def are_rows(schema, thing):
    """Whether an object is rows of a schema."""
    if not has_just_tables(schema, thing):
        return False
    for table in thing:
        if not are_table_rows(schema, table, thing[table]):
            return False
    return True


def check_rows(schema, thing):
    """Raises InvalidRows for an object that is no rows of a schema."""
    if not are_rows(schema, thing):
        raise InvalidRows("these are no rows of the schema")


def rows_at(schema, rows, table, column, value):
    """The ascending list of the indexes of the rows of a table that have a value in a column."""
    check_rows(schema, rows)
    at = schema.column_at(table, column)
    # True is equal to 1 and would be found, but it is no value.
    if not is_number(value):
        return []
    return [index for index, (values, _) in enumerate(rows[table]) if values[at] == value]


def beside(schema, rows, others):
    """Rows and others behind them, with the others' values raised so that no value of theirs is one of the rows."""
    check_rows(schema, rows)
    check_rows(schema, others)
    used = [value for table in schema.tables for values, _ in rows[table] for value in values]
    added = max(used, default=-1) + 1
    return {table: rows[table] + _raised(others[table], added) for table in schema.tables}


def _raised(table_rows, added):
    return [(tuple([value + added for value in values]), flags) for values, flags in table_rows]
