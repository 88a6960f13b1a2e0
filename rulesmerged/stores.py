"""Stores: a base and copies of it that are changed apart, within the kinds of changes that are let, and merged."""

from rulesmerged.books import read_book
from rulesmerged.copies import changes_done, check_kinds, rows_in, unchanged
from rulesmerged.errors import (BookBroken, DuplicateName, InvalidName, InvalidNames, InvalidRows, MergeBroken, NotLet,
                                NothingToUndo, UnknownCopy, UnknownFlag, UnknownRow)
from rulesmerged.merges import check_ways, merged
from rulesmerged.rows import are_table_rows, is_number
from rulesmerged.schemas import is_name
from rulesmerged.searches import book_search
from rulesmerged.spreads import Spread


class Store:
    """A base, at first without rows, and copies of it by name, at first none."""

    def __init__(self, schema, book, ways, kinds):
        self._schema = schema
        self._read = read_book(schema, book)
        check_ways(schema, ways)
        check_kinds(schema, kinds)
        self._book = list(book)
        self._ways = {table: ways[table] for table in schema.tables}
        self._kinds = list(kinds)
        # Neither the base nor the copies are ever changed, only replaced, so earlier states can share them.
        self._base = {table: [] for table in schema.tables}
        self._copies = {}
        self._earlier = []
        # Whether the kinds are free, once that was asked: it hangs on nothing that changes.
        self._safe = None

    def __len__(self):
        return len(self._earlier)

    @property
    def base(self):
        """The rows of the base."""
        return {table: list(self._base[table]) for table in self._base}

    @property
    def names(self):
        """The ascending list of the names of the copies."""
        return sorted(self._copies)

    def begin(self, name):
        """Makes a copy that does no changes."""
        if not is_name(name):
            raise InvalidName("this is no name")
        if name in self._copies:
            raise DuplicateName("there is a copy of this name")
        self._step(self._base, {**self._copies, name: unchanged(self._schema, self._base)})

    def put(self, name, table, values, flags):
        """Puts a row into a copy; returns its index among the rows of the table in the copy."""
        states, put = self._table_copy(name, table)
        row = (values, flags)
        if not are_table_rows(self._schema, table, [row]):
            raise InvalidRows("this is no row of the table")
        self._check_let(("put", table))
        self._step_in(name, table, states, put + [row])
        return len(_kept_at(states)) + len(put)

    def drop(self, name, table, index):
        """Drops a row of a copy, or takes it out if the copy put it."""
        states, put = self._table_copy(name, table)
        at, put_at = _place_of(states, put, index)
        if at is None:
            self._step_in(name, table, states, put[:put_at] + put[put_at + 1:])
        else:
            self._check_let(("drop", table))
            self._step_in(name, table, _replaced(states, at, None), put)

    def turn(self, name, table, index, flag):
        """Turns a flag of a row of a copy."""
        states, put = self._table_copy(name, table)
        at, put_at = _place_of(states, put, index)
        if not self._schema.has_flag(table, flag):
            raise UnknownFlag("the table has no such flag")
        flag_at = self._schema.flag_at(table, flag)
        if at is None:
            values, flags = put[put_at]
            self._step_in(name, table, states, _replaced(put, put_at, (values, _turned(flags, flag_at))))
            return
        state, (_, flags) = _turned(states[at], flag_at), self._base[table][at]
        # A flag that is turned back is as in the base, which is no change.
        if state[flag_at] != flags[flag_at]:
            self._check_let(("on" if state[flag_at] else "off", table, flag))
        self._step_in(name, table, _replaced(states, at, state), put)

    def rows(self, name):
        """The rows of a copy."""
        return rows_in(self._schema, self._base, self._copy_called(name))

    def done_in(self, name):
        """The ascending list of the kinds of changes that a copy does."""
        return changes_done(self._schema, self._base, self._copy_called(name))

    def merge(self, names):
        """Makes the rows of the merge of some copies the base, and takes all copies away."""
        if not isinstance(names, list) or not all([self._has_copy(name) for name in names]):
            raise InvalidNames("these are no names of copies")
        if len(set(names)) < len(names):
            raise InvalidNames("a name stands there twice")
        copies = [self._copies[name] for name in names]
        spread, every = Spread(self._schema, self._ways, self._base, copies), list(range(len(copies)))
        for at in every:
            if not self._read.is_kept_in(spread.view([at])):
                raise BookBroken("the rows of a copy do not keep the book")
        if not self._read.is_kept_in(spread.view(every)):
            raise MergeBroken("the rows of the merge do not keep the book")
        merge = merged(self._schema, self._ways, self._base, copies)
        self._step(rows_in(self._schema, self._base, merge), {})

    def is_safe(self):
        """Whether the kinds that are let are free, so that no merge of copies that keep the book breaks it."""
        if self._safe is None:
            self._safe = book_search(self._schema, self._read).is_met(self._ways, (self._kinds, self._kinds))
        return self._safe

    def undo(self):
        """Restores the state ahead of the last begin, put, drop, turn or merge that raised no error."""
        if not self._earlier:
            raise NothingToUndo("there is no call to undo")
        self._base, self._copies = self._earlier.pop()

    def copy(self):
        """An independent store in the same state, with the same calls to undo."""
        other = Store(self._schema, self._book, self._ways, self._kinds)
        other._base, other._copies, other._earlier = self._base, self._copies, list(self._earlier)
        return other

    def _has_copy(self, name):
        return isinstance(name, str) and name in self._copies

    def _copy_called(self, name):
        """The copy with a name; UnknownCopy for an object that is the name of none."""
        if not self._has_copy(name):
            raise UnknownCopy("there is no copy of this name")
        return self._copies[name]

    def _table_copy(self, name, table):
        """The states and the put rows of a table in a copy."""
        copy = self._copy_called(name)
        self._schema.check_table(table)
        return copy[table]

    def _check_let(self, kind):
        if kind not in self._kinds:
            raise NotLet("this kind of changes is not let")

    def _step_in(self, name, table, states, put):
        """Goes on to a state in which a table of a copy has these states and put rows."""
        copy = {**self._copies[name], table: (states, put)}
        self._step(self._base, {**self._copies, name: copy})

    def _step(self, base, copies):
        """Goes on to another state."""
        self._earlier.append((self._base, self._copies))
        self._base, self._copies = base, copies


def _kept_at(states):
    """The list of the indexes in the base of the rows that a copy did not drop."""
    return [at for at, state in enumerate(states) if state is not None]


def _place_of(states, put, index):
    """The tuple (index in the base, index among the put rows), one of them None, of a row named by its index."""
    kept = _kept_at(states)
    if not is_number(index) or index >= len(kept) + len(put):
        raise UnknownRow("the copy has no row with this index")
    return (kept[index], None) if index < len(kept) else (None, index - len(kept))


def _replaced(parts, at, part):
    """A list with another part at an index."""
    return parts[:at] + [part] + parts[at + 1:]


def _turned(flags, at):
    """Flags with the one at an index turned."""
    return flags[:at] + (not flags[at],) + flags[at + 1:]
