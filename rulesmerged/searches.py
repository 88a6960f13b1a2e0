"""Searching all cases of a book at once for one in which conditions are not met behind the merge."""

from rulesmerged.builds import Build
from rulesmerged.courses import Courses
from rulesmerged.marks import Marks
from rulesmerged.moments import Moments
from rulesmerged.readings import looks_within
from rulesmerged.strikes import Strikes


class Search:
    """Rules that bases and copies keep, deeds that are done to their merge, and what is asked of the rows behind them.

    A rule, and what is asked, is a tuple (table, number of the part of a condition); what a deed is, Marks says. In
    each version only those looks count on which something hangs that is asked there.
    """

    def __init__(self, schema, parts, rules, asked, deeds):
        self._schema = schema
        self._asked = asked
        kept = Moments(schema, parts, looks_within(parts, [number for _, number in rules]), rules)
        versions = [kept, kept, kept]
        for _, _, _, number in deeds:
            versions.append(Moments(schema, parts, looks_within(parts, [number]), []))
        versions.append(Moments(schema, parts, looks_within(parts, [number for _, number in asked]), []))
        self._marks = Marks(schema, versions, asked, deeds)
        asked_tables = [table for table, _ in asked]
        self._tables = [table for table in schema.tables if table in asked_tables or self._marks.fields[table]]

    def _struck(self, courses):
        """What is left of the row histories that matter, as far as something that is asked is broken by that."""
        strikes = Strikes(courses, self._marks, self._tables)
        strikes.strike_while_broken()
        return strikes

    def broken(self, ways, lets):
        """The ascending list of the indexes of the conditions, of those asked, that some row of some case breaks."""
        return self._struck(Courses(self._schema, ways, lets)).broken()

    def is_met(self, ways, lets):
        """Whether all rows meet what is asked, in all cases."""
        return self.broken(ways, lets) == []

    def case(self, ways, lets):
        """A tuple (base, copies, row) of a case and the name of a row that breaks what is asked, or None."""
        courses = Courses(self._schema, ways, lets)
        strikes = self._struck(courses)
        broken = strikes.broken()
        if not broken:
            return None
        table, _ = self._asked[broken[0]]
        return Build(self._schema, courses, self._marks, strikes).case_that_breaks(table, broken[0])


def book_search(schema, read):
    """The search for rows of merges that break a rule of a book that was taken apart."""
    return Search(schema, read.parts, read.rules, read.rules, [])
