"""Copies of a base, and the kinds of changes that they do."""

from rulesmerged.errors import InvalidCopy, InvalidKinds, InvalidLets
from rulesmerged.rows import are_bools, are_table_rows, check_rows
from rulesmerged.schemas import has_just_tables


def is_copy(schema, base, thing):
    """Whether an object is a copy of a base."""
    check_rows(schema, base)
    return _is_copy_of_rows(schema, base, thing)


def are_copies(schema, base, thing):
    """Whether an object is a list of copies of rows of a schema."""
    return isinstance(thing, list) and all([_is_copy_of_rows(schema, base, copy) for copy in thing])


def _is_copy_of_rows(schema, base, thing):
    if not has_just_tables(schema, thing):
        return False
    return all([_is_table_copy(schema, base, table, thing[table]) for table in schema.tables])


def _is_table_copy(schema, base, table, thing):
    if not isinstance(thing, tuple) or len(thing) != 2:
        return False
    states, put = thing
    if not isinstance(states, list) or len(states) != len(base[table]):
        return False
    many_flags = len(schema.flags(table))
    if not all([state is None or are_bools(state, many_flags) for state in states]):
        return False
    return are_table_rows(schema, table, put)


def check_copy(schema, base, thing):
    """Raises InvalidRows for a base that is no rows of a schema, InvalidCopy for an object that is no copy of it."""
    if not is_copy(schema, base, thing):
        raise InvalidCopy("this is no copy of the base")


def copy_rows(schema, base, copy):
    """The rows of a copy of a base."""
    check_copy(schema, base, copy)
    return rows_in(schema, base, copy)


def rows_in(schema, base, copy):
    """What copy_rows tells, of what surely is a copy of a base."""
    return {table: _table_rows(base[table], copy[table]) for table in schema.tables}


def _table_rows(base_rows, table_copy):
    states, put = table_copy
    return [(values, state) for (values, _), state in zip(base_rows, states) if state is not None] + put


def changes_of(schema, base, copy):
    """The ascending list of the kinds of changes that a copy of a base does."""
    check_copy(schema, base, copy)
    return changes_done(schema, base, copy)


def changes_done(schema, base, copy):
    """What changes_of tells, of what surely is a copy of a base."""
    kinds = []
    for table in schema.tables:
        states, put = copy[table]
        if put:
            kinds.append(("put", table))
        if None in states:
            kinds.append(("drop", table))
        kinds.extend(_turns(schema, table, base[table], states))
    return sorted(kinds)


def _turns(schema, table, base_rows, states):
    """The kinds of changes of flags that lead from rows of a table to their states in a copy."""
    kinds = []
    both = [(flags, state) for (_, flags), state in zip(base_rows, states) if state is not None]
    for at, flag in enumerate(schema.flags(table)):
        if any([state[at] and not flags[at] for flags, state in both]):
            kinds.append(("on", table, flag))
        if any([flags[at] and not state[at] for flags, state in both]):
            kinds.append(("off", table, flag))
    return kinds


def unchanged(schema, base):
    """The copy of a base that does no changes."""
    check_rows(schema, base)
    return {table: ([flags for _, flags in base[table]], []) for table in schema.tables}


def are_kinds(schema, thing):
    """Whether an object is a list of different kinds of changes of a schema."""
    if not isinstance(thing, list) or not all([schema.is_change(kind) for kind in thing]):
        return False
    return len(set(thing)) == len(thing)


def check_kinds(schema, thing):
    """Raises InvalidKinds for an object that is no list of different kinds of changes of a schema."""
    if not are_kinds(schema, thing):
        raise InvalidKinds("this is no list of different kinds of changes")


def check_lets(schema, thing):
    """Raises InvalidLets for an object that is no tuple of two lists of different kinds of changes."""
    if not isinstance(thing, tuple) or len(thing) != 2 or not all([are_kinds(schema, kinds) for kinds in thing]):
        raise InvalidLets("these are no lists of kinds of changes for two copies")
