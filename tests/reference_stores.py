"""What the document says of stores, told again in the plainest way: each call works on a copy of the whole state."""

import copy

from tests import reference, reference_histories


class PlainStore:
    """Calls return ('told', what the call returns) or ('raises', the name of the error)."""

    def __init__(self, tables, book, ways, kinds):
        self.tables, self.book, self.ways, self.kinds = tables, book, ways, kinds
        self.base, self.copies, self.earlier = {table: [] for table in sorted(tables)}, {}, []

    def call(self, word, *arguments):
        state = copy.deepcopy((self.base, self.copies))
        told = getattr(self, word)(*arguments)
        if told[0] == 'raises':
            self.base, self.copies = state
        elif word in ('begin', 'put', 'drop', 'turn', 'merge'):
            self.earlier.append(state)
        return told

    def has_copy(self, name):
        return type(name) is str and name in self.copies

    def has_table(self, table):
        return type(table) is str and table in self.tables

    def rows_of(self, name):
        return reference_histories.copy_rows(self.tables, self.base, self.copies[name])

    def kinds_done(self, name):
        kinds = reference.changes(self.tables)
        return [kind for kind in kinds if reference.does(self.tables, self.base, self.copies[name], kind)]

    def checked(self, name, told=None):
        """NotLet if a copy does a kind of changes now that is not let."""
        return ('told', told) if set(self.kinds_done(name)) <= set(self.kinds) else ('raises', 'NotLet')

    def begin(self, name):
        if not reference.is_name(name):
            return 'raises', 'InvalidName'
        if name in self.copies:
            return 'raises', 'DuplicateName'
        self.copies[name] = {table: ([flags for _, flags in rows], []) for table, rows in self.base.items()}
        return 'told', None

    def put(self, name, table, values, flags):
        if not self.has_copy(name):
            return 'raises', 'UnknownCopy'
        if not self.has_table(table):
            return 'raises', 'UnknownTable'
        if not reference.is_row(self.tables, table, (values, flags)):
            return 'raises', 'InvalidRows'
        index = len(self.rows_of(name)[table])
        self.copies[name][table][1].append((values, flags))
        return self.checked(name, index)

    def found(self, name, table, index):
        """Whether the row is of the base, and its index there or among those that were put; or an error."""
        if not self.has_copy(name):
            return 'raises', 'UnknownCopy'
        if not self.has_table(table):
            return 'raises', 'UnknownTable'
        states, put = self.copies[name][table]
        places = [(True, at) for at, state in enumerate(states) if state is not None] + [(False, at) for at in range(len(put))]
        if type(index) is not int or not 0 <= index < len(places):
            return 'raises', 'UnknownRow'
        return places[index]

    def drop(self, name, table, index):
        place = self.found(name, table, index)
        if place[0] == 'raises':
            return place
        of_base, at = place
        states, put = self.copies[name][table]
        if of_base:
            states[at] = None
        else:
            del put[at]
        return self.checked(name)

    def turn(self, name, table, index, flag):
        place = self.found(name, table, index)
        if place[0] == 'raises':
            return place
        if type(flag) is not str or flag not in self.tables[table][1]:
            return 'raises', 'UnknownFlag'
        of_base, at = place
        states, put = self.copies[name][table]
        flags = list(states[at] if of_base else put[at][1])
        where = self.tables[table][1].index(flag)
        flags[where] = not flags[where]
        if of_base:
            states[at] = tuple(flags)
        else:
            put[at] = (put[at][0], tuple(flags))
        return self.checked(name)

    def rows(self, name):
        return ('told', self.rows_of(name)) if self.has_copy(name) else ('raises', 'UnknownCopy')

    def done_in(self, name):
        return ('told', self.kinds_done(name)) if self.has_copy(name) else ('raises', 'UnknownCopy')

    def merge(self, names):
        if type(names) is not list or not all(self.has_copy(name) for name in names) or len(set(names)) < len(names):
            return 'raises', 'InvalidNames'
        if not all(reference_histories.keeps(self.tables, self.book, self.rows_of(name)) for name in names):
            return 'raises', 'BookBroken'
        merge = reference_histories.merged(self.tables, self.ways, self.base, [self.copies[name] for name in names])
        rows = reference_histories.copy_rows(self.tables, self.base, merge)
        if not reference_histories.keeps(self.tables, self.book, rows):
            return 'raises', 'MergeBroken'
        self.base, self.copies = {table: rows[table] for table in sorted(rows)}, {}
        return 'told', None

    def undo(self):
        if not self.earlier:
            return 'raises', 'NothingToUndo'
        self.base, self.copies = self.earlier.pop()
        return 'told', None

    def copy(self):
        return copy.deepcopy(self)
