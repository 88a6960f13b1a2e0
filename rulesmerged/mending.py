"""Scripts: deeds done to the rows of a merge, and whether the rows that they leave keep a book."""

from rulesmerged.books import read_book
from rulesmerged.copies import check_lets
from rulesmerged.errors import InvalidScript
from rulesmerged.grounds import Ground, View, all_told, indexes_in, is_in
from rulesmerged.merges import check_ways
from rulesmerged.readings import Reading
from rulesmerged.rows import check_rows
from rulesmerged.searches import Search

MOST_DEEDS = 2


def is_script(schema, thing):
    """Whether an object is a script."""
    return _deeds_read(schema, Reading(schema), thing) is not None


def _deeds_read(schema, reading, thing):
    """The deeds of a script, as Marks has them, their conditions numbered by a reading; None for any other object."""
    if not isinstance(thing, list) or len(thing) > MOST_DEEDS:
        return None
    deeds = [_deed_read(schema, reading, deed) for deed in thing]
    return None if None in deeds else deeds


def _deed_read(schema, reading, thing):
    if not isinstance(thing, tuple) or len(thing) < 3 or not schema.has_table(thing[1]):
        return None
    word, table, at = thing[0], thing[1], None
    if word == "set" and len(thing) == 4 and schema.has_flag(table, thing[2]):
        at = schema.flag_at(table, thing[2])
    elif word != "drop" or len(thing) != 3:
        return None
    number = reading.number(table, thing[-1])
    return None if number is None else (word, table, at, number)


def _checked_deeds(schema, reading, thing):
    """What _deeds_read tells of a script; InvalidScript for any other object."""
    deeds = _deeds_read(schema, reading, thing)
    if deeds is None:
        raise InvalidScript("this is no script of the schema")
    return deeds


def done(schema, rows, script):
    """The rows that a script leaves, with their flags behind it."""
    check_rows(schema, rows)
    reading = Reading(schema)
    deeds, ground = _checked_deeds(schema, reading, script), Ground(schema, rows)
    there, parts = ground.all_there(), reading.all_parts()
    flagged = {(table, flag): ground.flag_mask(table, flag) for table in there for flag in schema.flags(table)}
    for word, table, at, number in deeds:
        met = all_told(View(ground, there, flagged), parts)[number]
        if word == "set":
            flagged[(table, schema.flags(table)[at])] = met
        else:
            there[table] ^= met
            for flag in schema.flags(table):
                flagged[(table, flag)] &= there[table]
    return {table: _rows_left(schema, table, rows[table], there[table], flagged) for table in schema.tables}


def _rows_left(schema, table, table_rows, there, flagged):
    """The rows of a table that are there, with flags by masks."""
    masks = [flagged[(table, flag)] for flag in schema.flags(table)]
    return [(table_rows[index][0], tuple([is_in(index, mask) for mask in masks])) for index in indexes_in(there)]


def _search(schema, book, ways, lets, script):
    """The search for rows that a script leaves and that break a rule."""
    read = read_book(schema, book)
    check_ways(schema, ways)
    check_lets(schema, lets)
    deeds = _checked_deeds(schema, read, script)
    return Search(schema, read.parts, read.rules, read.rules, deeds)


def does_mend(schema, book, ways, lets, script):
    """Whether a script mends a book."""
    return _search(schema, book, ways, lets, script).is_met(ways, lets)


def case_unmended(schema, book, ways, lets, script):
    """A tuple (base, copies) of a case such that the rows that a script leaves do not keep the book, or None."""
    case = _search(schema, book, ways, lets, script).case(ways, lets)
    return None if case is None else case[:2]
