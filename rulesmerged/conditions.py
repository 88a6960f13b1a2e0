"""Conditions of a table, and which rows meet them."""

from rulesmerged.errors import InvalidCondition, UnknownRow
from rulesmerged.rows import check_rows, is_number

# For the first word of a condition, how many words it begins with, and how many conditions follow them.
FORMS = {"yes": (1, 0), "flag": (2, 0), "has": (4, 1), "not": (1, 1), "and": (1, 2), "or": (1, 2)}


def words_of(condition):
    """The words that a condition begins with, as a tuple."""
    return condition[:FORMS[condition[0]][0]]


def inner_of(condition):
    """The conditions that stand directly in a condition, as a tuple."""
    return condition[FORMS[condition[0]][0]:]


def inner_table(table, words):
    """The table of the conditions that follow the first words of a condition of a table."""
    return words[2] if words[0] == "has" else table


def are_words(schema, table, words):
    """Whether words, as many as the first one asks for, begin a condition of a table; any objects as the others."""
    if words[0] == "flag":
        return words[1] in schema.flags(table)
    if words[0] == "has":
        return _is_link(schema, table, words)
    return True


def _is_link(schema, table, words):
    _, column, other, target = words
    if not schema.has_column(table, column) or not schema.has_table(other) or not schema.has_column(other, target):
        return False
    return schema.kind_of(table, column) == schema.kind_of(other, target)


def is_condition(schema, table, thing):
    """Whether an object is a condition of a table."""
    schema.check_table(table)
    if not isinstance(thing, tuple) or not thing:
        return False
    if not isinstance(thing[0], str) or thing[0] not in FORMS or len(thing) != sum(FORMS[thing[0]]):
        return False
    words = words_of(thing)
    if not are_words(schema, table, words):
        return False
    inside = inner_table(table, words)
    return all([is_condition(schema, inside, inner) for inner in inner_of(thing)])


def meets(schema, rows, table, index, condition):
    """Whether a row, named by its index in its table, meets a condition of the table."""
    check_rows(schema, rows)
    schema.check_table(table)
    if not is_number(index) or index >= len(rows[table]):
        raise UnknownRow("the table has no row with this index")
    if not is_condition(schema, table, condition):
        raise InvalidCondition("this is no condition of the table")
    return all_meet(schema, rows, table, condition)[index]


def all_meet(schema, rows, table, condition):
    """The list that tells of each row of a table whether it meets a condition of the table."""
    # A look asks for all rows of a table anyway, so parts are worked out for all rows at once, and equal parts once.
    numbers = {}
    _number(numbers, table, condition)
    told = []
    for part in numbers:
        told.append(_all_meet_part(schema, rows, part, told))
    return told[-1]


def _number(numbers, table, condition):
    """Numbers a condition behind those in it, equal ones alike; in a part, numbers stand for the conditions in it."""
    words = words_of(condition)
    inside = inner_table(table, words)
    inner = [_number(numbers, inside, each) for each in inner_of(condition)]
    part = (table,) + words + tuple(inner)
    if part not in numbers:
        numbers[part] = len(numbers)
    return numbers[part]


def _all_meet_part(schema, rows, part, told):
    table, word, *rest = part
    if word == "yes":
        return [True for _ in rows[table]]
    if word == "flag":
        at = schema.flags(table).index(rest[0])
        return [flags[at] for _, flags in rows[table]]
    if word == "has":
        return _all_find(schema, rows, part, told)
    if word == "not":
        return [not met for met in told[rest[0]]]
    both = list(zip(told[rest[0]], told[rest[1]]))
    if word == "and":
        return [first and second for first, second in both]
    return [first or second for first, second in both]


def _all_find(schema, rows, part, told):
    table, _, column, other, target, inner = part
    own_at, other_at = schema.column_at(table, column), schema.column_at(other, target)
    found = {values[other_at]: True for (values, _), met in zip(rows[other], told[inner]) if met}
    return [values[own_at] in found for values, _ in rows[table]]


def depth(condition):
    """How many "has" of a condition lie within one another at most."""
    deepest = max([depth(inner) for inner in inner_of(condition)], default=0)
    return deepest + 1 if condition[0] == "has" else deepest


def has_parts(table, condition):
    """The tuples (table, column, other, target, condition) of all "has" of a condition, as they begin in it."""
    parts = []
    if condition[0] == "has":
        parts.append((table,) + condition[1:])
    inside = inner_table(table, words_of(condition))
    for inner in inner_of(condition):
        parts.extend(has_parts(inside, inner))
    return parts
