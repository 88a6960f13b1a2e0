"""Striking row histories, by their marks: those with equal marks are struck in the same round."""

from rulesmerged.marks import Marks


class Strikes:
    """Which marks of the row histories of terms are struck, in which rounds, and which are left."""

    def __init__(self, terms, marks):
        self.left, self.rounds = {}, {}
        for table in terms.schema.tables:
            found = {}
            for states in terms.courses(table):
                found.update({mark: True for mark in marks.of_course(table, states)})
            self.left[table], self.rounds[table] = list(found), {}
        number, self.good = 1, marks.good_meetings(self.left)
        while self._strike(marks, number):
            number, self.good = number + 1, marks.good_meetings(self.left)

    def _strike(self, marks, number):
        """Strikes what is struck in the round with a number; returns whether that is something."""
        many = 0
        for table in list(self.left):
            struck = {mark: number for mark in self.left[table] if marks.is_struck(table, mark, self.good)}
            self.left[table] = [mark for mark in self.left[table] if mark not in struck]
            self.rounds[table].update(struck)
            many += len(struck)
        return many > 0

    def rules_broken(self, marks):
        """The ascending list of the indexes of the rules that row histories that are left break in the merge."""
        broken = 0
        for table in self.left:
            for mark in self.left[table]:
                broken |= mark
        return [rule for rule in range(marks.many_rules) if broken & marks.breach_bit(rule)]


def struck_of(terms):
    """The tuple (marks, strikes) of terms."""
    marks = Marks(terms.schema, terms.moments)
    return marks, Strikes(terms, marks)


def marked_histories(terms, marks, table):
    """The ascending list of the tuples (row history, mark) of a table."""
    found = [mark for states in terms.courses(table) for mark in marks.of_course(table, states)]
    return list(zip(terms.histories(table), found))
