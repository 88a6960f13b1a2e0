"""Striking row histories, by their marks: those with equal marks are struck in the same round."""


class Strikes:
    """Which marks of the row histories of courses are struck, in which rounds, and which are left."""

    def __init__(self, courses, marks):
        self._marks = marks
        self.left, self.rounds = {}, {}
        for table in marks.fields:
            found = {}
            for states in courses.of_table(table):
                found.update({mark: True for mark in marks.of_course(table, states)})
            self.left[table], self.rounds[table] = list(found), {}
        number, self.good = 1, marks.good_meetings(self.left)
        while self._strike(number):
            number, self.good = number + 1, marks.good_meetings(self.left)

    def _strike(self, number):
        """Strikes what is struck in the round with a number; returns whether that is something."""
        many = 0
        for table in list(self.left):
            struck = {mark: number for mark in self.left[table] if self._marks.is_struck(table, mark, self.good)}
            self.left[table] = [mark for mark in self.left[table] if mark not in struck]
            self.rounds[table].update(struck)
            many += len(struck)
        return many > 0

    def broken(self):
        """The ascending list of the indexes of the conditions, of those asked for, that marks that are left break."""
        every = 0
        for table in self.left:
            for mark in self.left[table]:
                every |= mark
        return self._marks.broken_by(every)
