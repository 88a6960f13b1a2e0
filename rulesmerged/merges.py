"""Ways of merging, and merges of copies of a base."""

from itertools import combinations

from rulesmerged.books import read_book
from rulesmerged.copies import are_copies
from rulesmerged.errors import InvalidCopies, InvalidWays
from rulesmerged.rows import check_rows
from rulesmerged.schemas import has_just_tables
from rulesmerged.spreads import Spread, merged_states

DROP_WORDS = ("drop", "keep")
FLAG_WORDS = ("turned", "on", "off")


def are_ways(schema, thing):
    """Whether an object is ways of a schema."""
    if not has_just_tables(schema, thing):
        return False
    return all([_is_way(thing[table], len(schema.flags(table))) for table in schema.tables])


def _is_way(thing, many_flags):
    if not isinstance(thing, tuple) or len(thing) != 2:
        return False
    drop, words = thing
    if drop not in DROP_WORDS or not isinstance(words, tuple) or len(words) != many_flags:
        return False
    return all([word in FLAG_WORDS for word in words])


def check_ways(schema, thing):
    """Raises InvalidWays for an object that is no ways of a schema."""
    if not are_ways(schema, thing):
        raise InvalidWays("these are no ways of the schema")


def _check_copies(schema, base, thing):
    check_rows(schema, base)
    if not are_copies(schema, base, thing):
        raise InvalidCopies("this is no list of copies of the base")


def merged(schema, ways, base, copies):
    """The merge of a list of copies of a base, a copy of it, too."""
    check_ways(schema, ways)
    _check_copies(schema, base, copies)
    return {table: _merged_table(table, ways[table], base, copies) for table in schema.tables}


def _merged_table(table, way, base, copies):
    base_states = [flags for _, flags in base[table]]
    states = merged_states(way, base_states, [copy[table][0] for copy in copies])
    return states, [row for copy in copies for row in copy[table][1]]


def fewest_breaking(schema, book, ways, base, copies):
    """The first of the shortest lists of indexes of copies whose merge does not keep a book, or None."""
    read = read_book(schema, book)
    check_ways(schema, ways)
    _check_copies(schema, base, copies)
    spread = Spread(schema, ways, base, copies)
    for many in range(len(copies) + 1):
        for chosen in combinations(range(len(copies)), many):
            if not read.is_kept_in(spread.view(chosen)):
                return list(chosen)
    return None
