"""What holds for all calls alike: arguments stay as they are, and the order of the keys of a dict means nothing."""

import copy
import unittest

from rulesmerged import books, conditions, copies, rows, schemas, texts
from tests.things import ROWS, TABLES, turned_round

SCHEMA = schemas.Schema(TABLES)
CONDITION = ('or', ('has', 'id', 'shop', 'at', ('flag', 'open')), ('not', ('flag', 'old')))
BOOK = [('town', CONDITION), ('town', ('flag', 'old')), ('man', ('yes',))]
COPY = {
    'town': ([None, (True, False), (True, False)], []),
    'shop': ([(True,), (False,)], [((3, 4), (True,)), ((3, 4), (True,))]),
    'man': ([(), None], [((5,), ())]),
}

CALLS = [
    (schemas.Schema, [TABLES]), (rows.are_rows, [SCHEMA, ROWS]), (rows.rows_at, [SCHEMA, ROWS, 'town', 'of', 2]),
    (rows.beside, [SCHEMA, ROWS, ROWS]), (conditions.is_condition, [SCHEMA, 'town', CONDITION]),
    (conditions.meets, [SCHEMA, ROWS, 'town', 0, CONDITION]), (conditions.depth, [CONDITION]),
    (conditions.has_parts, ['town', CONDITION]), (texts.format_condition, [CONDITION]), (texts.format_book, [BOOK]),
    (texts.parse_book, [SCHEMA, 'town yes']), (books.is_rule, [SCHEMA, BOOK[0]]), (books.is_book, [SCHEMA, BOOK]),
    (books.broken, [SCHEMA, BOOK, ROWS]), (books.keeps, [SCHEMA, BOOK, ROWS]), (copies.is_copy, [SCHEMA, ROWS, COPY]),
    (copies.copy_rows, [SCHEMA, ROWS, COPY]), (copies.changes_of, [SCHEMA, ROWS, COPY]),
    (copies.unchanged, [SCHEMA, ROWS]), (copies.are_kinds, [SCHEMA, [('put', 'town'), ('drop', 'man')]]),
]


def lists_and_dicts(thing):
    """All lists and dicts in an object, as often as they stand there."""
    parts = list(thing.values()) if isinstance(thing, dict) else thing
    found = [thing] if isinstance(thing, (list, dict)) else []
    if isinstance(thing, (list, tuple, dict)):
        for part in parts:
            found.extend(lists_and_dicts(part))
    return found


class ArgumentsTest(unittest.TestCase):
    def test_arguments_stay(self):
        for call, arguments in CALLS:
            before = copy.deepcopy(arguments)
            call(*arguments)
            self.assertEqual(repr(arguments[1:]), repr(before[1:]), call.__name__)
            self.assertEqual(arguments, before, call.__name__)

    def test_order_of_keys(self):
        for call, arguments in CALLS:
            told = call(*arguments)
            self.assertEqual(call(*[turned_round(each) for each in arguments]), told, call.__name__)
            if isinstance(told, dict):
                self.assertEqual(list(told), sorted(told))

    def test_lists_and_dicts_are_new_and_stand_once(self):
        for call, arguments in CALLS:
            kept = [call(*arguments), call(*arguments)]
            own = {id(each) for each in lists_and_dicts(arguments)}
            told = lists_and_dicts(kept[0]) + lists_and_dicts(kept[1])
            self.assertEqual(len({id(each) for each in told} - own), len(told), call.__name__)


if __name__ == '__main__':
    unittest.main()
