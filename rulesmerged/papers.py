"""Papers: why row histories are struck, so that it can be checked round by round."""

from rulesmerged.histories import check_history
from rulesmerged.left import Outcome, marks_of
from rulesmerged.rows import is_number
from rulesmerged.terms import terms_of


def is_paper(schema, book, ways, lets, thing):
    """Whether an object is a paper."""
    terms = terms_of(schema, book, ways, lets)
    if not isinstance(thing, dict):
        return False
    for history, number in thing.items():
        if not terms.has_history(history) or not is_number(number) or number == 0:
            return False
    return _is_right(terms, thing)


def _is_right(terms, numbers):
    """Whether each row history of a dict would be struck if just those with lesser numbers had been struck."""
    marks = marks_of(terms)
    many, by_number = _many_by_mark(terms, marks), {}
    for history, number in numbers.items():
        by_number.setdefault(number, []).append((history[0], marks.mark(history)))
    good = marks.good_meetings(many)
    for number in sorted(by_number):
        if not all([marks.is_struck(table, mark, good) for table, mark in by_number[number]]):
            return False
        if _take(many, by_number[number]):
            good = marks.good_meetings(many)
    return True


def _take(many, struck):
    """Takes row histories off the numbers by marks; returns whether a mark has none any more."""
    before = sum([len(many[table]) for table in many])
    for table, mark in struck:
        many[table][mark] -= 1
        if many[table][mark] == 0:
            del many[table][mark]
    return sum([len(many[table]) for table in many]) < before


def _many_by_mark(terms, marks):
    """For each table the dict from the marks to the numbers of the row histories that have them."""
    found = {}
    for table in terms.schema.tables:
        found[table] = {}
        for states in terms.courses.of_table(table):
            for mark in marks.of_course(table, states):
                found[table][mark] = found[table].get(mark, 0) + 1
    return found


def paper(schema, book, ways, lets, history):
    """A paper in which a row history is, or None if it is left."""
    terms = terms_of(schema, book, ways, lets)
    check_history(terms, history)
    rounds = Outcome(terms).all_rounds()
    if history not in rounds:
        return None
    # Those of the same round and of later ones are not needed.
    return {each: rounds[each] for each in rounds if rounds[each] < rounds[history] or each == history}
