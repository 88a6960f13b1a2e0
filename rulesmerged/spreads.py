"""Merging, of all rows of a table at once, by masks.

The states of rows, their flags or None for rows that are not there, are masks here: a tuple of the mask of the rows
that are there and the list of the masks, one for each flag, of the rows that are there and have it.
"""

from rulesmerged.grounds import Ground, View, is_in, mask_of


def masks_of_states(states, many_flags):
    """The masks of a list of states."""
    there = mask_of([state is not None for state in states])
    return there, [mask_of([state is not None and state[at] for state in states]) for at in range(many_flags)]


def merged_masks(way, base, copies):
    """The masks of the merge of copies of a base by a way of a table, from the masks of the base and of each copy."""
    if not copies:
        return base
    drop, words = way
    some, every = 0, base[0]
    for there, _ in copies:
        some |= there
        every &= there
    there = every if drop == "drop" else some
    return there, [there & _merged_flag(word, at, base, copies) for at, word in enumerate(words)]


def _merged_flag(word, at, base, copies):
    """The mask of the rows that have a flag in the merge if they are there in it."""
    turned, some, missed = 0, 0, 0
    for there, flags in copies:
        turned |= there & (flags[at] ^ base[1][at])
        some |= flags[at]
        missed |= there ^ flags[at]
    if word == "turned":
        return base[1][at] ^ turned
    return some if word == "on" else ~missed


def merged_states(way, base, copies):
    """The list of the states of rows of a table in the merge, from those in the base and in each copy."""
    many_flags = len(way[1])
    masks = [masks_of_states(states, many_flags) for states in copies]
    there, flags = merged_masks(way, masks_of_states(base, many_flags), masks)
    return [state_in(there, flags, index) for index in range(len(base))]


def state_in(there, flags, index):
    """The state that the row with an index has by masks."""
    if not is_in(index, there):
        return None
    return tuple([is_in(index, mask) for mask in flags])


class Spread:
    """Copies of a base, laid over one ground, in which the rows of the base come first, then what each copy put."""

    def __init__(self, schema, ways, base, copies):
        self._schema = schema
        self._ways = ways
        self._base, self._copies, self._put, self._starts, rows = {}, {}, {}, {}, {}
        for table in schema.tables:
            _, many_flags = schema.sizes(table)
            self._base[table] = masks_of_states([flags for _, flags in base[table]], many_flags)
            self._copies[table] = [masks_of_states(copy[table][0], many_flags) for copy in copies]
            self._put[table], self._starts[table], rows[table] = [], [0], list(base[table])
            for copy in copies:
                there, flags = masks_of_states([flags for _, flags in copy[table][1]], many_flags)
                start = len(rows[table])
                self._put[table].append((there << start, [mask << start for mask in flags]))
                self._starts[table].append(start)
                rows[table].extend(copy[table][1])
        self._ground = Ground(schema, rows)

    def index_of(self, table, source, index):
        """The index in the ground of a row of the base, source 0, or of one that a copy put, source 1 and so on."""
        return self._starts[table][source] + index

    def view(self, chosen):
        """The view of the merge of the copies with these indexes: the base for none, the copy itself for one."""
        there, flagged = {}, {}
        for table in self._schema.tables:
            states = [self._copies[table][at] for at in chosen]
            put = [self._put[table][at] for at in chosen]
            there[table], flags = merged_masks(self._ways[table], self._base[table], states)
            for put_there, _ in put:
                there[table] |= put_there
            for at, flag in enumerate(self._schema.flags(table)):
                flagged[(table, flag)] = flags[at]
                for _, put_flags in put:
                    flagged[(table, flag)] |= put_flags[at]
        return View(self._ground, there, flagged)
