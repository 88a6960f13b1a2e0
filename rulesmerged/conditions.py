"""Conditions of a table, and which rows meet them."""

from rulesmerged.errors import InvalidCondition, UnknownRow
from rulesmerged.grounds import all_told, is_in, rows_view
from rulesmerged.readings import Reading
from rulesmerged.rows import check_rows, is_number

# For the first word of a condition, how many words it begins with, and how many conditions follow them.
FORMS = {"yes": (1, 0), "flag": (2, 0), "has": (4, 1), "not": (1, 1), "and": (1, 2), "or": (1, 2)}


def words_of(condition):
    """The words that a condition begins with, as a tuple."""
    return condition[:FORMS[condition[0]][0]]


def inner_of(condition):
    """The conditions that stand directly in a condition, as a tuple."""
    return condition[FORMS[condition[0]][0]:]


def inner_table(table, words):
    """The table of the conditions that follow the first words of a condition of a table."""
    return words[2] if words[0] == "has" else table


def are_words(schema, table, words):
    """Whether words, as many as the first one asks for, begin a condition of a table; any objects as the others."""
    if words[0] == "flag":
        return schema.has_flag(table, words[1])
    if words[0] == "has":
        return schema.is_link(table, words[1], words[2], words[3])
    return True


def is_condition(schema, table, thing):
    """Whether an object is a condition of a table."""
    schema.check_table(table)
    return Reading(schema).number(table, thing) is not None


def meets(schema, rows, table, index, condition):
    """Whether a row, named by its index in its table, meets a condition of the table."""
    check_rows(schema, rows)
    schema.check_table(table)
    if not is_number(index) or index >= len(rows[table]):
        raise UnknownRow("the table has no row with this index")
    reading = Reading(schema)
    number = reading.number(table, condition)
    if number is None:
        raise InvalidCondition("this is no condition of the table")
    return is_in(index, all_told(rows_view(schema, rows), reading.all_parts())[number])


def depth(condition):
    """How many "has" of a condition lie within one another at most."""
    deepest = max([depth(inner) for inner in inner_of(condition)], default=0)
    return deepest + 1 if condition[0] == "has" else deepest


def has_parts(table, condition):
    """The tuples (table, column, other, target, condition) of all "has" of a condition, as they begin in it."""
    parts = []
    if condition[0] == "has":
        parts.append((table,) + condition[1:])
    inside = inner_table(table, words_of(condition))
    for inner in inner_of(condition):
        parts.extend(has_parts(inside, inner))
    return parts
