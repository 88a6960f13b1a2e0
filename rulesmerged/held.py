"""Changes that one copy alone must hold so that a book is kept by merging."""

from rulesmerged.books import read_book
from rulesmerged.copies import are_kinds, check_kinds
from rulesmerged.errors import InvalidHeld
from rulesmerged.merges import check_ways
from rulesmerged.searches import book_search
from rulesmerged.subsets import Subsets


class Holding:
    """A book, ways and let kinds, asked for many lists of these that are held."""

    def __init__(self, schema, book, ways, kinds):
        self._search = book_search(schema, read_book(schema, book))
        check_ways(schema, ways)
        check_kinds(schema, kinds)
        self._ways = ways
        self._kinds = kinds

    def is_enough(self, held):
        """Whether the book is kept by merging however the held kinds are dealt."""
        for lets in _dealings(self._kinds, held):
            if not self._search.is_met(self._ways, lets):
                return False
        return True


def _dealings(kinds, held):
    """What is let to the two copies in all dealings of the held kinds.

    The first one is always dealt to the first copy: with the copies the other way round it is kept likewise.
    """
    shared = [kind for kind in kinds if kind not in held]
    dealings = [(shared, shared)]
    for at, kind in enumerate(held):
        to_first = [(first + [kind], second) for first, second in dealings]
        to_second = [(first, second + [kind]) for first, second in dealings if at > 0]
        dealings = to_first + to_second
    return dealings


def is_enough(schema, book, ways, kinds, held):
    """Whether a list held of some let kinds is enough."""
    holding = Holding(schema, book, ways, kinds)
    if not are_kinds(schema, held) or not all([kind in kinds for kind in held]):
        raise InvalidHeld("this is no list of different ones of the let kinds")
    return holding.is_enough(held)


def least_held(schema, book, ways, kinds):
    """The ascending list of the ascending lists of let kinds that are enough, but not if any of them is left out."""
    holding = Holding(schema, book, ways, kinds)
    return Subsets(sorted(kinds), holding.is_enough).least()


def greatest_idle(schema, book, ways, kinds):
    """The ascending list of the ascending lists of let kinds that are not enough, but are with any further one."""
    holding = Holding(schema, book, ways, kinds)
    return Subsets(sorted(kinds), holding.is_enough).greatest_without()
