"""Conditions, books and schemas as texts."""

from rulesmerged.books import MOST_RULES
from rulesmerged.conditions import FORMS, are_words, inner_of, inner_table, words_of
from rulesmerged.errors import InvalidSchema, ParseError
from rulesmerged.schemas import Schema, is_name

# For the first word of a line of a schema, how many names follow it.
LINES = {"table": 1, "column": 2, "flag": 1}


def format_condition(condition):
    """The text of a condition."""
    return " ".join(list(words_of(condition)) + [format_condition(inner) for inner in inner_of(condition)])


def format_book(book):
    """The text of a book: a line for each rule."""
    return "\n".join([f"{table} {format_condition(condition)}" for table, condition in book])


def format_schema(schema):
    """The text of a schema: a line for each table, and behind it one for each column and each flag of it."""
    lines = []
    for table in schema.tables:
        lines.append(f"table {table}")
        lines.extend([f"column {name} {kind}" for name, kind in schema.columns(table)])
        lines.extend([f"flag {flag}" for flag in schema.flags(table)])
    return "\n".join(lines)


def parse_condition(schema, table, text):
    """The condition of a table that has a text."""
    schema.check_table(table)
    if not isinstance(text, str):
        raise ParseError(0)
    condition = _condition(schema, table, text.split(" "))
    if condition is None:
        raise ParseError(0)
    return condition


def parse_book(schema, text):
    """The book of a schema that has a text."""
    if not isinstance(text, str):
        raise ParseError(0)
    if text == "":
        return []
    book = []
    for index, line in enumerate(text.split("\n")):
        rule = _rule(schema, line.split(" "))
        if rule is None:
            raise ParseError(index)
        book.append(rule)
    if len(book) > MOST_RULES:
        raise ParseError(len(book))
    return book


def parse_schema(text):
    """The schema that has a text."""
    if not isinstance(text, str):
        raise ParseError(0)
    lines = [line.split(" ") for line in text.split("\n")]
    for index, words in enumerate(lines):
        if not _is_schema_line(words):
            raise ParseError(index)
    schema = _schema(lines)
    # Lines in another order may make a schema, too, but they are not its text.
    if schema is None or format_schema(schema) != text:
        raise ParseError(len(lines))
    return schema


def _rule(schema, words):
    """The rule that has these words, or None."""
    table = words[0]
    if not schema.has_table(table):
        return None
    condition = _condition(schema, table, words[1:])
    return None if condition is None else (table, condition)


def _condition(schema, table, words):
    """The condition of a table that has these words, or None."""
    beginnings = _beginnings(schema, table, words)
    return None if beginnings is None else _built(beginnings)


def _beginnings(schema, table, words):
    """The words that each condition in the words begins with, in order, or None if the words are no condition."""
    # By a list of what is still to come, not by calls within calls: a text that is none may go on for long.
    beginnings, waiting, at = [], [table], 0
    while waiting:
        inside = waiting.pop()
        if at >= len(words) or words[at] not in FORMS:
            return None
        many_words, many_inner = FORMS[words[at]]
        beginning = tuple(words[at:at + many_words])
        if len(beginning) < many_words or not are_words(schema, inside, beginning):
            return None
        beginnings.append(beginning)
        waiting.extend([inner_table(inside, beginning)] * many_inner)
        at += many_words
    return beginnings if at == len(words) else None


def _built(beginnings):
    """The condition whose conditions begin with these words, in this order."""
    built = []
    # From the end, so that what stands in a condition is there, the first one last, when its own words come.
    for beginning in reversed(beginnings):
        inner = []
        for _ in range(FORMS[beginning[0]][1]):
            inner.append(built.pop())
        built.append(beginning + tuple(inner))
    return built[0]


def _is_schema_line(words):
    if words[0] not in LINES or len(words) != LINES[words[0]] + 1:
        return False
    return all([is_name(word) for word in words[1:]])


def _schema(lines):
    """The schema that lines of the right form make, in whatever order, or None."""
    # The first lists are of no table: they take what stands ahead of the first one.
    tables, columns, flags = {}, [], []
    for word, *names in lines:
        if word == "table":
            columns, flags = [], []
            tables[names[0]] = (columns, flags)
        elif word == "column":
            columns.append(tuple(names))
        else:
            flags.append(names[0])
    try:
        return Schema({table: (tuple(tables[table][0]), tuple(tables[table][1])) for table in tables})
    except InvalidSchema:
        return None
