"""Lists of some of a few things, for what holds of a list whenever it holds of a list of fewer of its things."""


class Subsets:
    """Of which lists of some of the things something holds; holds tells it of each list of them in their order."""

    def __init__(self, things, holds):
        self._things = things
        # By the numbers of the lists, in which bit i is set for the thing with index i.
        self._told = [False] * (1 << len(things))
        if holds(things):
            for number in range(1 << len(things)):
                self._told[number] = self._is_told(self._with_fewer(number)) or holds(self._chosen(number))

    def _is_told(self, numbers):
        """Whether it holds of the list with one of some numbers."""
        return any([self._told[number] for number in numbers])

    def _chosen(self, number):
        return [thing for at, thing in enumerate(self._things) if number >> at & 1]

    def _with_fewer(self, number):
        """The numbers of the lists of one thing less."""
        return [number ^ (1 << at) for at in range(len(self._things)) if number >> at & 1]

    def _with_more(self, number):
        """The numbers of the lists of one thing more."""
        return [number | (1 << at) for at in range(len(self._things)) if not number >> at & 1]

    def least(self):
        """The ascending list of the lists of which it holds, but not if any thing is left out."""
        numbers = [number for number, holds in enumerate(self._told) if holds]
        return sorted([self._chosen(number) for number in numbers if not self._is_told(self._with_fewer(number))])

    def greatest_without(self):
        """The ascending list of the lists of which it does not hold, but does with any further thing."""
        numbers = [number for number, holds in enumerate(self._told) if not holds]
        return sorted([self._chosen(number) for number in numbers
                       if all([self._told[more] for more in self._with_more(number)])])
