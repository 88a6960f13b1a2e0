"""Books of rules, and which rows break them."""

from rulesmerged.errors import InvalidBook
from rulesmerged.grounds import all_told, indexes_in, rows_view
from rulesmerged.readings import Reading
from rulesmerged.rows import check_rows

MOST_RULES = 6


def is_rule(schema, thing):
    """Whether an object is a rule of a schema."""
    return _rule_read(Reading(schema), schema, thing) is not None


def is_book(schema, thing):
    """Whether an object is a book of a schema."""
    return _rules_read(Reading(schema), schema, thing) is not None


def _rule_read(reading, schema, thing):
    """The tuple (table, number of the part of the condition) of a rule, or None for any object that is none."""
    if not isinstance(thing, tuple) or len(thing) != 2 or not schema.has_table(thing[0]):
        return None
    number = reading.number(thing[0], thing[1])
    return None if number is None else (thing[0], number)


def _rules_read(reading, schema, thing):
    """The list of what _rule_read tells of the rules of a book, or None for any object that is no book."""
    if not isinstance(thing, list) or len(thing) > MOST_RULES:
        return None
    rules = []
    for at, rule in enumerate(thing):
        # An object that is equal to a rule is one, too, since rules consist of strings and tuples alone.
        same = thing.index(rule)
        rules.append(rules[same] if same < at else _rule_read(reading, schema, rule))
        if rules[at] is None:
            return None
    return rules


class ReadBook:
    """A book taken apart: the parts of its conditions, and for each rule (table, number of the part)."""

    def __init__(self, reading, rules):
        self._reading = reading
        self.parts = reading.all_parts()
        self.rules = rules

    def looks(self):
        """The dict from the parts that are looks, in the order in which they begin first, to the looks."""
        return self._reading.looks()

    def number(self, table, thing):
        """The number of the part that a condition asked beside the book is; None for an object that is none."""
        number = self._reading.number(table, thing)
        self.parts = self._reading.all_parts()
        return number

    def broken_in(self, view):
        """For each rule the mask of the rows of a view that break it."""
        told = all_told(view, self.parts)
        return [view.there[table] ^ told[number] for table, number in self.rules]

    def is_kept_in(self, view):
        """Whether no row of a view breaks a rule."""
        return self.broken_in(view) == [0] * len(self.rules)


def read_book(schema, thing):
    """A book, taken apart; InvalidBook for any object that is none."""
    reading = Reading(schema)
    rules = _rules_read(reading, schema, thing)
    if rules is None:
        raise InvalidBook("this is no book of the schema")
    return ReadBook(reading, rules)


def broken(schema, book, rows):
    """The ascending list of the tuples (index of a rule, index of a row) of the rows that break a rule."""
    read = read_book(schema, book)
    check_rows(schema, rows)
    masks = read.broken_in(rows_view(schema, rows))
    return [(rule, row) for rule, mask in enumerate(masks) for row in indexes_in(mask)]


def keeps(schema, book, rows):
    """Whether no row breaks a rule of a book."""
    read = read_book(schema, book)
    check_rows(schema, rows)
    return read.is_kept_in(rows_view(schema, rows))
