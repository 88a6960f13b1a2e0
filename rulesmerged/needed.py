"""Which rules of a book are needed so that all rows of merges meet a condition."""

from rulesmerged.meeting import read_asked
from rulesmerged.searches import Search
from rulesmerged.subsets import Subsets


class Need:
    """Ways, lets and a condition, asked with many lists of the rules of a book."""

    def __init__(self, schema, book, ways, lets, table, condition):
        self._schema = schema
        self._read, self._asked = read_asked(schema, book, ways, lets, table, condition)
        self._ways = ways
        self._lets = lets

    def is_met(self, indexes):
        """Whether the condition is always met with the book of just the rules with some indexes."""
        rules = [self._read.rules[index] for index in indexes]
        return Search(self._schema, self._read.parts, rules, [self._asked], []).is_met(self._ways, self._lets)


def least_rules(schema, book, ways, lets, table, condition):
    """The ascending list of the lists of indexes of rules with which a condition is always met, but not with fewer."""
    need = Need(schema, book, ways, lets, table, condition)
    return Subsets(list(range(len(book))), need.is_met).least()


def greatest_spoilers(schema, book, ways, lets, table, condition):
    """The ascending list of the lists of indexes of rules with which it is not always met, but is with any further."""
    need = Need(schema, book, ways, lets, table, condition)
    return Subsets(list(range(len(book))), need.is_met).greatest_without()
