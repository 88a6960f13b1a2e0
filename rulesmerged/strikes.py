"""Striking row histories, by their marks: those with equal marks are struck in the same round."""


class Strikes:
    """Which marks of the row histories of some tables are struck, in which rounds, and which are left so far."""

    def __init__(self, courses, marks, tables):
        self._marks = marks
        self._number = 0
        self.left, self.rounds = {}, {}
        # For each kind of columns the mask of the meetings that were good in the last round.
        self.good = {}
        for table in tables:
            found = {}
            for states in courses.of_table(table):
                found.update({mark: True for mark in marks.of_course(table, states)})
            self.left[table], self.rounds[table] = list(found), {}

    def _strike_once(self):
        """Strikes what is struck in the next round; returns whether that is something."""
        self._number, many = self._number + 1, 0
        self.good = self._marks.good_meetings(self.left)
        for table in list(self.left):
            left, struck = [], self.rounds[table]
            for mark in self.left[table]:
                if self._marks.is_struck(table, mark, self.good):
                    struck[mark] = self._number
                else:
                    left.append(mark)
            many += len(self.left[table]) - len(left)
            self.left[table] = left
        return many > 0

    def strike_all(self):
        """Strikes, round by round, all that is struck."""
        while self._strike_once():
            pass

    def strike_while_broken(self):
        """Strikes all that is struck, or as long as something that is asked for is broken by what is left."""
        while self.broken() and self._strike_once():
            pass

    def broken(self):
        """The ascending list of the indexes of the conditions, of those asked for, that marks that are left break."""
        every = 0
        for table in self.left:
            for mark in self.left[table]:
                every |= mark
        return self._marks.broken_by(every)
