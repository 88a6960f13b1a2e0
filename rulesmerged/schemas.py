"""Schemas: tables with their columns, kinds of columns and flags."""

from rulesmerged.errors import InvalidSchema, UnknownColumn, UnknownTable

# Texts would be ambiguous if one of their first words were a name as well.
NO_NAMES = ("and", "or", "not", "has", "yes", "flag")
MOST_LETTERS = 8
MOST_TABLES = 4
MOST_COLUMNS = 3
MOST_FLAGS = 2


def is_name(thing):
    """Whether an object is a name."""
    if not isinstance(thing, str) or len(thing) > MOST_LETTERS or thing in NO_NAMES:
        return False
    return thing.isascii() and thing.isalpha() and thing.islower()


def has_just_tables(schema, thing):
    """Whether an object is a dict that has the tables of a schema as its keys, all of them and no others."""
    tables = schema.tables
    if not isinstance(thing, dict) or len(thing) != len(tables):
        return False
    for table in tables:
        if table not in thing:
            return False
    return True


def _is_column(thing):
    return isinstance(thing, tuple) and len(thing) == 2 and is_name(thing[0]) and is_name(thing[1])


def _is_table(thing):
    if not isinstance(thing, tuple) or len(thing) != 2:
        return False
    columns, flags = thing
    if not isinstance(columns, tuple) or not isinstance(flags, tuple):
        return False
    if not 1 <= len(columns) <= MOST_COLUMNS or len(flags) > MOST_FLAGS:
        return False
    if not all([_is_column(column) for column in columns]) or not all([is_name(flag) for flag in flags]):
        return False
    names = [name for name, _ in columns] + list(flags)
    return len(set(names)) == len(names)


def _are_tables(thing):
    if not isinstance(thing, dict) or not 1 <= len(thing) <= MOST_TABLES:
        return False
    return all([is_name(table) and _is_table(thing[table]) for table in thing])


def _changes(tables):
    kinds = []
    for table, (_, flags) in tables.items():
        kinds.append(("drop", table))
        kinds.append(("put", table))
        for flag in flags:
            kinds.append(("off", table, flag))
            kinds.append(("on", table, flag))
    return sorted(kinds)


class Schema:
    """One to four tables; each has columns with their kinds, and flags."""

    def __init__(self, tables):
        if not _are_tables(tables):
            raise InvalidSchema("these are no tables of a schema")
        self._tables = {table: tables[table] for table in sorted(tables)}
        # Conditions, rows and copies ask for these very often, so they are worked out once.
        self._changes = {kind: True for kind in _changes(self._tables)}
        self._sizes = {table: (len(columns), len(flags)) for table, (columns, flags) in self._tables.items()}
        self._kinds, self._column_at, self._flag_at = {}, {}, {}
        for table, (columns, flags) in self._tables.items():
            for at, (name, kind) in enumerate(columns):
                self._kinds[(table, name)] = kind
                self._column_at[(table, name)] = at
            for at, flag in enumerate(flags):
                self._flag_at[(table, flag)] = at

    def __eq__(self, other):
        return isinstance(other, Schema) and self._tables == other._tables

    @property
    def tables(self):
        """The ascending list of the names of the tables."""
        return list(self._tables)

    @property
    def changes(self):
        """The ascending list of the kinds of changes."""
        return list(self._changes)

    def is_change(self, thing):
        """Whether an object is a kind of changes."""
        if not isinstance(thing, tuple):
            return False
        for word in thing:
            if not isinstance(word, str):
                return False
        return thing in self._changes

    def has_table(self, table):
        """Whether an object is the name of a table."""
        return isinstance(table, str) and table in self._tables

    def check_table(self, table):
        """Raises UnknownTable for an object that is not the name of a table."""
        if not isinstance(table, str) or table not in self._tables:
            raise UnknownTable("the schema has no such table")

    def columns(self, table):
        """The columns of a table, as tuples (name, kind)."""
        self.check_table(table)
        return self._tables[table][0]

    def flags(self, table):
        """The flags of a table."""
        self.check_table(table)
        return self._tables[table][1]

    def sizes(self, table):
        """How many columns and how many flags a table has, for the name of a table."""
        return self._sizes[table]

    def has_flag(self, table, flag):
        """Whether an object is a flag of a table."""
        return isinstance(flag, str) and (table, flag) in self._flag_at

    def flag_at(self, table, flag):
        """The index of a flag of a table among its flags."""
        return self._flag_at[(table, flag)]

    def has_column(self, table, column):
        """Whether an object is the name of a column of a table."""
        self.check_table(table)
        return isinstance(column, str) and (table, column) in self._kinds

    def check_column(self, table, column):
        """Raises UnknownTable, or UnknownColumn for an object that is not the name of a column of the table."""
        if not self.has_column(table, column):
            raise UnknownColumn("the table has no such column")

    def column_at(self, table, column):
        """The index of a column among those of its table."""
        self.check_column(table, column)
        return self._column_at[(table, column)]

    def kind_of(self, table, column):
        """The kind of a column of a table."""
        self.check_column(table, column)
        return self._kinds[(table, column)]

    def kind_at(self, place):
        """The kind of a place (table, column) of the schema."""
        return self._kinds[place]

    def is_link(self, table, column, other, target):
        """Whether objects are a column of a table and, of the same kind, a place (other, target)."""
        if not isinstance(column, str) or not isinstance(other, str) or not isinstance(target, str):
            return False
        kind = self._kinds.get((table, column))
        return kind is not None and kind == self._kinds.get((other, target))

    def places(self, kind):
        """The ascending list of the places (table, column) of a kind."""
        return sorted([place for place, own in self._kinds.items() if own == kind])
