"""What row histories hang on: a book, ways, and the kinds of changes that are let to two copies."""

from itertools import product

from rulesmerged.books import read_book
from rulesmerged.copies import check_lets
from rulesmerged.courses import Courses
from rulesmerged.merges import check_ways
from rulesmerged.moments import VERSIONS, Moments, moment_number
from rulesmerged.rows import are_bools


class Terms:
    """A schema, a book that was taken apart, and ways and lets, told by courses; with all row histories of these."""

    def __init__(self, schema, read, ways, lets):
        self.schema = schema
        self.read = read
        self.ways = ways
        self.courses = Courses(schema, ways, lets)
        self.look_parts = list(read.looks())
        kept = Moments(schema, read.parts, self.look_parts, read.rules)
        self.versions = [kept, kept, kept, Moments(schema, read.parts, self.look_parts, [])]

    def histories(self, table):
        """The ascending list of the row histories of a table."""
        found = []
        for states in self.courses.of_table(table):
            answers = [moments.answers_of(table, state) for moments, state in zip(self.versions, states)]
            first, second, third, last = answers
            found.extend([(table, states, chosen) for chosen in product(first, second, third, last)])
        return found

    def has_history(self, thing):
        """Whether an object is a row history."""
        if not isinstance(thing, tuple) or len(thing) != 3 or not self.schema.has_table(thing[0]):
            return False
        table, states, answers = thing
        for each in (states, answers):
            if not isinstance(each, tuple) or len(each) != len(VERSIONS):
                return False
        for version in VERSIONS:
            if not self._is_moment(table, version, states[version], answers[version]):
                return False
        return self.courses.is_course(table, states)

    def _is_moment(self, table, version, state, answers):
        """Whether objects are the flags and the answers of a row in a version, both None if it is not there."""
        if state is None:
            return answers is None
        moments = self.versions[version]
        _, many_flags = self.schema.sizes(table)
        if not are_bools(state, many_flags) or not are_bools(answers, len(moments.own[table])):
            return False
        return moments.is_allowed(table, moment_number(state, answers))


def terms_of(schema, book, ways, lets):
    """The terms of a book, ways and lets; InvalidBook, InvalidWays or InvalidLets for other objects."""
    read = read_book(schema, book)
    check_ways(schema, ways)
    check_lets(schema, lets)
    return Terms(schema, read, ways, lets)
