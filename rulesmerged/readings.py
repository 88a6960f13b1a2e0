"""Conditions taken apart into numbered parts, so that each part is looked at once however often it stands there.

A part is a tuple: the table of the condition, its words, and the numbers of the conditions in it. That of a look is
(table, "has", column, other, target, number).
"""


def place_from(part):
    """The place (table, column) from which a look looks."""
    return (part[0], part[2])


def place_to(part):
    """The place (other, target) to which a look leads."""
    return (part[3], part[4])


def looks_within(parts, numbers):
    """The list of the parts that are looks in the conditions with some numbers, also within other looks."""
    wanted = [False] * len(parts)
    for number in numbers:
        wanted[number] = True
    # What stands in a condition has a lesser number than it.
    for number in range(len(parts) - 1, -1, -1):
        if wanted[number]:
            for inner in _inner_numbers(parts[number]):
                wanted[inner] = True
    return [part for part, is_wanted in zip(parts, wanted) if is_wanted and part[1] == "has"]


def _inner_numbers(part):
    """The numbers of the conditions that stand directly in a part."""
    if part[1] == "has":
        return part[5:]
    return () if part[1] == "flag" else part[2:]


class Reading:
    """The parts of the conditions that it was asked to number: equal ones once, each behind the parts in it."""

    def __init__(self, schema):
        self._schema = schema
        self._numbers = {}
        self._begun = []

    def number(self, table, thing):
        """The number of the part that a condition of a table is; None for any object that is no condition of it."""
        if not isinstance(thing, tuple) or not thing:
            return None
        word, many, part = thing[0], len(thing), None
        if many == 3 and (word == "and" or word == "or"):
            first = self.number(table, thing[1])
            second = self.number(table, thing[2])
            if first is not None and second is not None:
                part = (table, word, first, second)
        elif many == 2 and word == "not":
            inner = self.number(table, thing[1])
            if inner is not None:
                part = (table, "not", inner)
        elif many == 2 and word == "flag":
            if self._schema.has_flag(table, thing[1]):
                part = (table, "flag", thing[1])
        elif many == 5 and word == "has":
            part = self._look_part(table, thing)
        elif many == 1 and word == "yes":
            part = (table, "yes")
        if part is None:
            return None
        return self._numbers.setdefault(part, len(self._numbers))

    def _look_part(self, table, thing):
        _, column, other, target, condition = thing
        if not self._schema.is_link(table, column, other, target):
            return None
        # Looks are told in the order in which they begin, so each takes its place ahead of those in it.
        at = len(self._begun)
        self._begun.append(None)
        inner = self.number(other, condition)
        if inner is None:
            return None
        part = (table, "has", column, other, target, inner)
        self._begun[at] = (part, (table, column, other, target, condition))
        return part

    def all_parts(self):
        """The list of the parts by their numbers."""
        return list(self._numbers)

    def looks(self):
        """The dict from the parts that are looks, in the order in which they begin first, to the looks."""
        return {part: look for part, look in self._begun}
