"""Many rows at once: which rows meet which conditions, told by masks.

A mask is an integer in which the bit of each index of some rows is set or not set.
"""


def mask_of(bools):
    """The mask of the indexes at which a list has True."""
    mask, bit = 0, 1
    for each in bools:
        if each:
            mask |= bit
        bit += bit
    return mask


def indexes_in(mask):
    """The ascending list of the indexes in a mask."""
    indexes = []
    while mask:
        lowest = mask & -mask
        indexes.append(lowest.bit_length() - 1)
        mask ^= lowest
    return indexes


def is_in(index, mask):
    """Whether an index is in a mask."""
    return mask >> index & 1 == 1


def bit_mask(bit, bits):
    """The mask of the numbers of so many bits in which one bit is set."""
    mask, width = ((1 << (1 << bit)) - 1) << (1 << bit), 2 << bit
    while width < 1 << bits:
        mask |= mask << width
        width += width
    return mask


class Ground:
    """Rows that views show, each view some of them, perhaps with other flags, but all with the same values."""

    def __init__(self, schema, rows):
        self._schema = schema
        self._rows = rows
        self._by_value = {}

    def all_there(self):
        """The dict from the tables to the masks of all rows."""
        return {table: (1 << len(self._rows[table])) - 1 for table in self._rows}

    def flag_mask(self, table, flag):
        """The mask of the rows of a table that have a flag here."""
        mask, bit, at = 0, 1, self._schema.flag_at(table, flag)
        for _, flags in self._rows[table]:
            if flags[at]:
                mask |= bit
            bit += bit
        return mask

    def by_value(self, table, column):
        """The dict from the values in a column to the masks of the rows that have them there."""
        place = (table, column)
        if place not in self._by_value:
            masks, bit, at = {}, 1, self._schema.column_at(table, column)
            for values, _ in self._rows[table]:
                masks[values[at]] = masks.get(values[at], 0) | bit
                bit += bit
            self._by_value[place] = masks
        return self._by_value[place]


class View:
    """Which rows of a ground are there, by table, and which of them have a flag, by table and flag; None: as in it."""

    def __init__(self, ground, there, flagged):
        self._ground = ground
        self.there = there
        self.flagged = flagged

    def flag_mask(self, table, flag):
        """The mask of the rows of a table that are there and have a flag."""
        if self.flagged is None:
            return self._ground.flag_mask(table, flag)
        return self.flagged[(table, flag)]

    def look_mask(self, part, met):
        """The mask of the rows that are there and find a row as a look asks for; met is that of rows to be found."""
        table, _, column, other, target, _ = part
        if not met or not self.there[table]:
            return 0
        own, found = self._ground.by_value(table, column), 0
        for value, mask in self._ground.by_value(other, target).items():
            if mask & met and value in own:
                found |= own[value]
        return found & self.there[table]


def rows_view(schema, rows):
    """The view of rows in which all of them are there, with their flags."""
    ground = Ground(schema, rows)
    return View(ground, ground.all_there(), None)


def all_told(view, parts):
    """For each part of conditions, by its number, the mask of the rows that are there and meet it."""
    told = []
    for part in parts:
        table, word = part[0], part[1]
        if word == "and":
            told.append(told[part[2]] & told[part[3]])
        elif word == "or":
            told.append(told[part[2]] | told[part[3]])
        elif word == "not":
            told.append(view.there[table] ^ told[part[2]])
        elif word == "flag":
            told.append(view.flag_mask(table, part[2]))
        elif word == "has":
            told.append(view.look_mask(part, told[part[5]]))
        else:
            told.append(view.there[table])
    return told
