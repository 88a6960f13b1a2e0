"""Whether a book is kept by merging two copies, and cases in which it is not."""

from rulesmerged.books import read_book
from rulesmerged.copies import check_lets
from rulesmerged.errors import InvalidNumber
from rulesmerged.merges import check_ways
from rulesmerged.rows import is_number
from rulesmerged.searches import Search, book_search


def _checked_book(schema, book, ways, lets):
    """The book, taken apart; InvalidBook, InvalidWays or InvalidLets for other objects."""
    read = read_book(schema, book)
    check_ways(schema, ways)
    check_lets(schema, lets)
    return read


def is_kept(schema, book, ways, lets):
    """Whether the book is kept by merging."""
    read = _checked_book(schema, book, ways, lets)
    return book_search(schema, read).is_met(ways, lets)


def kept_rules(schema, book, ways, lets):
    """The ascending list of the indexes of the rules that no row of the merge of a case breaks."""
    read = _checked_book(schema, book, ways, lets)
    broken = book_search(schema, read).broken(ways, lets)
    return [rule for rule in range(len(book)) if rule not in broken]


def breach(schema, book, ways, lets, rule):
    """A tuple (base, copies, row) of a case and the name of a row that breaks a rule in the merge, or None."""
    read = _checked_book(schema, book, ways, lets)
    if not is_number(rule) or rule >= len(book):
        raise InvalidNumber("there is no rule with this index")
    return Search(schema, read.parts, read.rules, [read.rules[rule]], []).case(ways, lets)
