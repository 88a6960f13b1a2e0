"""Whether a book is kept by merging two copies, and cases in which it is not."""

from rulesmerged.builds import Build
from rulesmerged.errors import InvalidNumber
from rulesmerged.rows import is_number
from rulesmerged.strikes import marked_histories, struck_of
from rulesmerged.terms import terms_of


def is_kept(schema, book, ways, lets):
    """Whether the book is kept by merging."""
    marks, strikes = struck_of(terms_of(schema, book, ways, lets))
    return strikes.rules_broken(marks) == []


def kept_rules(schema, book, ways, lets):
    """The ascending list of the indexes of the rules that no row of the merge of a case breaks."""
    marks, strikes = struck_of(terms_of(schema, book, ways, lets))
    broken = strikes.rules_broken(marks)
    return [rule for rule in range(len(book)) if rule not in broken]


def breach(schema, book, ways, lets, rule):
    """A tuple (base, copies, row) of a case and the name of a row that breaks a rule in the merge, or None."""
    terms = terms_of(schema, book, ways, lets)
    if not is_number(rule) or rule >= len(book):
        raise InvalidNumber("there is no rule with this index")
    marks, strikes = struck_of(terms)
    if rule not in strikes.rules_broken(marks):
        return None
    table, bit = book[rule][0], marks.breach_bit(rule)
    breaking = [mark for mark in strikes.left[table] if mark & bit]
    samples = [history for history, mark in marked_histories(terms, marks, table) if mark == breaking[0]]
    return Build(terms, marks, strikes).case_of(samples[0])
