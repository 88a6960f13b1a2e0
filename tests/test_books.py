import copy
import time
import unittest

from rulesmerged.books import broken, is_book, is_rule, keeps
from rulesmerged.errors import InvalidBook, InvalidRows
from rulesmerged.schemas import Schema
from tests import reference
from tests.things import LINKED_ROWS, ROWS, TABLES, THINGS, linked_condition, new_dice, random_condition, random_rows
from tests.things import turned_round, variations

SCHEMA = Schema(TABLES)
YES = ('yes',)
RULE = ('shop', ('has', 'at', 'town', 'id', ('flag', 'old')))
BOOK = [RULE, ('town', ('not', ('flag', 'shut'))), ('town', ('or', ('flag', 'old'), ('flag', 'shut')))]


class IsBookTest(unittest.TestCase):
    def test_rules(self):
        for rule in BOOK + [('man', YES)]:
            self.assertIs(is_rule(SCHEMA, rule), True)
        self.assertIs(is_rule(schema=SCHEMA, thing=RULE), True)
        for thing in (['town', YES], ('town',), ('town', YES, YES), ('nosuch', YES), (['town'], YES), (None, YES), (('town',), YES),
                      ('town', ['yes']), ('town', ('flag', 'open')), ('town', None), (YES, 'town'), ('town', 'yes'), ()):
            self.assertIs(is_rule(SCHEMA, thing), False, thing)

    def test_books(self):
        for book in ([], BOOK, [RULE] * 6, [RULE, RULE]):
            self.assertIs(is_book(SCHEMA, book), True)
        self.assertIs(is_book(schema=SCHEMA, thing=BOOK), True)
        for thing in ([RULE] * 7, (RULE,), (), {}, [list(RULE)], [RULE, None], [[RULE]], RULE, None, [RULE] * 100000):
            self.assertIs(is_book(SCHEMA, thing), False)

    def test_any_object(self):
        for thing in THINGS:
            self.assertIs(is_rule(SCHEMA, thing), reference.is_rule(TABLES, thing), repr(thing)[:60])
            self.assertIs(is_book(SCHEMA, thing), reference.is_book(TABLES, thing), repr(thing)[:60])

    def test_variations(self):
        told = []
        for thing in variations(BOOK[:2]):
            told.append(is_book(SCHEMA, thing))
            self.assertIs(told[-1], reference.is_book(TABLES, thing), thing)
        for thing in variations(RULE):
            self.assertIs(is_rule(SCHEMA, thing), reference.is_rule(TABLES, thing), thing)
        self.assertGreater(told.count(True), 4)
        self.assertGreater(told.count(False), 200)


class BrokenTest(unittest.TestCase):
    def test_ascending_pairs(self):
        self.assertEqual(broken(SCHEMA, BOOK, ROWS), [(0, 1), (1, 2), (2, 1)])
        self.assertEqual(broken(SCHEMA, BOOK[::-1], ROWS), [(0, 1), (1, 2), (2, 1)])
        self.assertEqual(broken(SCHEMA, [('town', ('not', YES))] * 2, ROWS), [(0, 0), (0, 1), (0, 2), (1, 0), (1, 1), (1, 2)])
        self.assertEqual(broken(schema=SCHEMA, book=[], rows=ROWS), [])
        self.assertEqual(broken(SCHEMA, [('man', YES)], turned_round(ROWS)), [])

    def test_keeps(self):
        self.assertIs(keeps(SCHEMA, BOOK, ROWS), False)
        self.assertIs(keeps(SCHEMA, BOOK, {'town': [], 'shop': [], 'man': []}), True)
        self.assertIs(keeps(SCHEMA, BOOK[:1], {**ROWS, 'shop': ROWS['shop'][:1]}), True)
        self.assertIs(keeps(schema=SCHEMA, book=[], rows=ROWS), True)

    def test_random_books(self):
        dice = new_dice()
        for _ in range(300):
            rows = random_rows(dice, TABLES, 4, 3)
            tables = [dice.choice(list(TABLES)) for _ in range(dice.randrange(7))]
            book = [(table, random_condition(dice, TABLES, table, 3)) for table in tables]
            expected = []
            for rule, (table, condition) in enumerate(book):
                for index, row in enumerate(rows[table]):
                    if not reference.meets(TABLES, rows, table, row, condition):
                        expected.append((rule, index))
            self.assertEqual(broken(SCHEMA, book, rows), expected)
            self.assertIs(keeps(SCHEMA, book, turned_round(rows)), expected == [])

    def test_errors_in_their_order_for_any_objects(self):
        for call in (broken, keeps):
            for thing in THINGS:
                if not reference.is_book(TABLES, thing):
                    for rows in (thing, ROWS, None):
                        with self.assertRaises(InvalidBook):
                            call(SCHEMA, thing, rows)
                with self.assertRaises(InvalidRows):
                    call(SCHEMA, BOOK, thing)
                with self.assertRaises(InvalidRows):
                    call(SCHEMA, [], thing)

    def test_arguments_stay_and_results_are_new(self):
        book, rows = copy.deepcopy(BOOK), copy.deepcopy(ROWS)
        broken(SCHEMA, book, rows).clear()
        keeps(SCHEMA, book, rows)
        self.assertEqual([book, rows], [BOOK, ROWS])
        self.assertEqual(broken(SCHEMA, book, rows), [(0, 1), (1, 2), (2, 1)])

    def test_many_rows_in_good_time(self):
        start = time.process_time()
        self.assertEqual(len(broken(SCHEMA, [('shop', linked_condition())] * 6, LINKED_ROWS)), 9000)
        self.assertLess(time.process_time() - start, 10)


if __name__ == '__main__':
    unittest.main()
