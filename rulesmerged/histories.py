"""Row histories and meetings, and the row histories of the rows of cases."""

from rulesmerged.books import read_book
from rulesmerged.copies import are_copies, changes_done
from rulesmerged.errors import InvalidCase, InvalidHistory, InvalidMeeting, InvalidNumber, UnknownColumn, UnknownRow
from rulesmerged.grounds import all_told, is_in
from rulesmerged.moments import MERGE, VERSIONS, moment_number
from rulesmerged.readings import place_from, place_to
from rulesmerged.rows import are_bools, are_rows, is_number
from rulesmerged.spreads import Spread, state_in
from rulesmerged.terms import terms_of

# The copies whose merge is a version: the merge of one copy is the copy itself.
VERSION_COPIES = ((), (0,), (1,), (0, 1))


def histories(schema, book, ways, lets, table):
    """The ascending list of all row histories of a table."""
    terms = terms_of(schema, book, ways, lets)
    schema.check_table(table)
    return terms.histories(table)


def is_history(schema, book, ways, lets, thing):
    """Whether an object is a row history."""
    return terms_of(schema, book, ways, lets).has_history(thing)


def check_history(terms, thing):
    """Raises InvalidHistory for an object that is no row history."""
    if not terms.has_history(thing):
        raise InvalidHistory("this is no row history")


def is_meeting(schema, book, thing):
    """Whether an object is a meeting."""
    return _is_meeting(schema, list(read_book(schema, book).looks()), thing)


def _is_meeting(schema, parts, thing):
    if not isinstance(thing, tuple) or len(thing) != 2:
        return False
    kind, answers = thing
    if schema.places(kind) == [] or not isinstance(answers, tuple) or len(answers) != len(VERSIONS):
        return False
    many = len(_through(schema, parts, kind))
    return all([are_bools(each, many) for each in answers])


def _through(schema, parts, kind):
    """The list of the looks of a kind, in their order."""
    return [part for part in parts if schema.kind_at(place_from(part)) == kind]


def gives(schema, book, ways, lets, history, index, version):
    """Whether a row history gives the look with an index in a version."""
    terms = terms_of(schema, book, ways, lets)
    check_history(terms, history)
    for number, many in ((index, len(terms.look_parts)), (version, len(VERSIONS))):
        if not is_number(number) or number >= many:
            raise InvalidNumber("there is no such look or version")
    return _gives(terms, history, terms.look_parts[index], version)


def _gives(terms, history, part, version):
    table, states, answers = history
    if states[version] is None:
        return False
    return terms.versions[version].is_given(part, table, moment_number(states[version], answers[version]))


def fits(schema, book, ways, lets, history, column, meeting):
    """Whether a row history fits a meeting at a column of its table."""
    terms = terms_of(schema, book, ways, lets)
    check_history(terms, history)
    if not schema.has_column(history[0], column):
        raise UnknownColumn("the table has no such column")
    if not _is_meeting(schema, terms.look_parts, meeting):
        raise InvalidMeeting("this is no meeting")
    kind = schema.kind_of(history[0], column)
    if meeting[0] != kind:
        return False
    through = _through(schema, terms.look_parts, kind)
    return all([_fits_at(terms, history, column, version, part, meeting[1][version][at])
                for version in VERSIONS for at, part in enumerate(through)])


def _fits_at(terms, history, column, version, part, answer):
    """Whether a row history fits what a meeting answers to a look in a version, at a column of the look's kind."""
    table, states, answers = history
    if states[version] is None:
        return True
    if place_from(part) == (table, column):
        if answers[version][terms.versions[version].own[table].index(part)] != answer:
            return False
    return answer or place_to(part) != (table, column) or not _gives(terms, history, part, version)


def is_case(schema, book, ways, lets, base, copies):
    """Whether a base and a list of copies are a case."""
    return _case_spread(terms_of(schema, book, ways, lets), base, copies) is not None


def _case_spread(terms, base, copies):
    """A case, laid over one ground, or None for any objects that are no case."""
    schema = terms.schema
    if not are_rows(schema, base) or not are_copies(schema, base, copies) or len(copies) != 2:
        return None
    for copy in (0, 1):
        if not terms.courses.are_let(copy, changes_done(schema, base, copies[copy])):
            return None
    spread = Spread(schema, terms.ways, base, copies)
    for version in VERSIONS:
        if version != MERGE and not terms.read.is_kept_in(spread.view(VERSION_COPIES[version])):
            return None
    return spread


def history_on(schema, book, ways, lets, base, copies, row):
    """The row history that a row of a case has; (table, 0 for the base, 1 or 2 for a copy, index) names it."""
    terms = terms_of(schema, book, ways, lets)
    spread = _case_spread(terms, base, copies)
    if spread is None:
        raise InvalidCase("these are no case")
    if not _is_row_of_case(schema, base, copies, row):
        raise UnknownRow("the case has no such row")
    table, source, index = row
    at, states, answers = spread.index_of(table, source, index), [], []
    for chosen in VERSION_COPIES:
        view = spread.view(chosen)
        told = dict(zip(terms.read.parts, all_told(view, terms.read.parts)))
        states.append(state_in(view.there[table], [view.flag_mask(table, flag) for flag in schema.flags(table)], at))
        own = [is_in(at, told[part]) for part in terms.look_parts if part[0] == table]
        answers.append(None if states[-1] is None else tuple(own))
    return (table, tuple(states), tuple(answers))


def _is_row_of_case(schema, base, copies, thing):
    if not isinstance(thing, tuple) or len(thing) != 3 or not schema.has_table(thing[0]):
        return False
    table, source, index = thing
    if not is_number(source) or source > len(copies) or not is_number(index):
        return False
    rows = base[table] if source == 0 else copies[source - 1][table][1]
    return index < len(rows)
