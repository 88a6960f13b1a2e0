import unittest

from rulesmerged.errors import InvalidBook, UnknownColumn, UnknownTable
from rulesmerged.looks import looks, looks_into, looks_through, own_looks
from rulesmerged.schemas import Schema
from tests import reference, reference_histories
from tests.things import TABLES, THINGS, check_errors, new_dice, random_condition, variations, wrong_ones

SCHEMA = Schema(TABLES)
YES = ('yes',)
OPEN = ('has', 'id', 'shop', 'at', ('flag', 'open'))
WITHIN = ('has', 'of', 'town', 'id', OPEN)
BOOK = [
    ('shop', ('and', ('has', 'by', 'man', 'id', YES), ('or', ('flag', 'open'), ('has', 'at', 'town', 'id', WITHIN)))),
    ('town', ('not', OPEN)),
    ('man', ('has', 'id', 'shop', 'by', ('has', 'by', 'man', 'id', YES))),
    ('town', ('or', ('has', 'id', 'shop', 'at', YES), WITHIN)),
]
LOOKS = [
    ('shop', 'by', 'man', 'id', YES),
    ('shop', 'at', 'town', 'id', WITHIN),
    ('town', 'of', 'town', 'id', OPEN),
    ('town', 'id', 'shop', 'at', ('flag', 'open')),
    ('man', 'id', 'shop', 'by', ('has', 'by', 'man', 'id', YES)),
    ('town', 'id', 'shop', 'at', YES),
]


class LooksTest(unittest.TestCase):
    def test_each_once_in_their_order(self):
        self.assertEqual(looks(SCHEMA, BOOK), LOOKS)
        self.assertEqual(looks(schema=SCHEMA, book=[]), [])
        self.assertEqual(looks(SCHEMA, [('town', ('flag', 'old')), ('man', YES)]), [])
        self.assertEqual(looks(SCHEMA, BOOK[1:2] * 2 + BOOK[1:]), LOOKS[3:4] + LOOKS[4:5] + LOOKS[0:1] + LOOKS[5:6] + LOOKS[2:3])

    def test_twice_in_one_rule_and_in_two(self):
        look = ('town',) + OPEN[1:]
        for condition in (('and', OPEN, OPEN), ('or', ('not', OPEN), OPEN), ('not', OPEN)):
            self.assertEqual(looks(SCHEMA, [('town', condition)]), [look])
            self.assertEqual(looks(SCHEMA, [('town', condition), ('town', OPEN)]), [look])

    def test_an_outer_look_begins_ahead_of_those_in_it(self):
        own = ('town',) + OPEN[1:]
        self.assertEqual(looks(SCHEMA, [('town', WITHIN)]), [('town',) + WITHIN[1:], own])
        self.assertEqual(looks(SCHEMA, [('town', ('and', OPEN, WITHIN))]), [own, ('town',) + WITHIN[1:]])
        self.assertEqual(looks(SCHEMA, [('town', ('and', WITHIN, OPEN))]), [('town',) + WITHIN[1:], own])
        twice = ('has', 'of', 'town', 'of', ('has', 'of', 'town', 'of', YES))
        self.assertEqual(looks(SCHEMA, [('town', twice)]), [('town',) + twice[1:], ('town', 'of', 'town', 'of', YES)])

    def test_looks_that_differ_in_one_part_alone(self):
        base = ('has', 'id', 'town', 'id', YES)
        for other in (('has', 'of', 'town', 'id', YES), ('has', 'id', 'town', 'of', YES), ('has', 'id', 'town', 'id', ('not', YES)),
                      ('has', 'id', 'shop', 'at', YES)):
            self.assertEqual(looks(SCHEMA, [('town', ('or', base, other))]), [('town',) + base[1:], ('town',) + other[1:]])
        tables = {'man': ((('id', 'k'),), ()), 'town': ((('id', 'k'),), ())}
        book = [('town', ('has', 'id', 'man', 'id', YES)), ('man', ('has', 'id', 'man', 'id', YES))]
        self.assertEqual(looks(Schema(tables), book), [('town', 'id', 'man', 'id', YES), ('man', 'id', 'man', 'id', YES)])

    def test_random_books(self):
        dice = new_dice()
        for _ in range(300):
            tables = [dice.choice(list(TABLES)) for _ in range(dice.randrange(7))]
            book = [(table, random_condition(dice, TABLES, table, 4)) for table in tables]
            found = reference_histories.looks(book)
            self.assertEqual(looks(SCHEMA, book), found)
            for table in TABLES:
                self.assertEqual(own_looks(SCHEMA, book, table), [at for at, look in enumerate(found) if look[0] == table])
                for column, _ in TABLES[table][0]:
                    into = [at for at, look in enumerate(found) if look[2] == table and look[3] == column]
                    self.assertEqual(looks_into(SCHEMA, book, table, column), into)
            for kind in ('town', 'man', 'nosuch'):
                through = [at for at, look in enumerate(found) if reference.kind_of(TABLES, look[0], look[1]) == kind]
                self.assertEqual(looks_through(SCHEMA, book, kind), through)


class IndexesTest(unittest.TestCase):
    def test_own_looks(self):
        self.assertEqual([own_looks(SCHEMA, BOOK, table) for table in ('shop', 'town', 'man')], [[0, 1], [2, 3, 5], [4]])
        self.assertEqual(own_looks(schema=SCHEMA, book=[], table='town'), [])

    def test_looks_into(self):
        self.assertEqual([looks_into(SCHEMA, BOOK, 'town', column) for column in ('id', 'of')], [[1, 2], []])
        self.assertEqual([looks_into(SCHEMA, BOOK, 'shop', column) for column in ('at', 'by')], [[3, 5], [4]])
        self.assertEqual(looks_into(schema=SCHEMA, book=BOOK, table='man', column='id'), [0])

    def test_looks_through(self):
        self.assertEqual([looks_through(SCHEMA, BOOK, kind) for kind in ('town', 'man')], [[1, 2, 3, 5], [0, 4]])
        self.assertEqual(looks_through(schema=SCHEMA, book=BOOK[1:2], kind='man'), [])
        for thing in THINGS:
            if thing not in ('town', 'man'):
                self.assertEqual(looks_through(SCHEMA, BOOK, thing), [], repr(thing)[:60])

    def test_lists_are_new(self):
        for call, arguments in ((looks, []), (own_looks, ['town']), (looks_into, ['town', 'id']), (looks_through, ['town'])):
            told = call(SCHEMA, BOOK, *arguments)
            call(SCHEMA, BOOK, *arguments).clear()
            self.assertEqual(call(SCHEMA, BOOK, *arguments), told)


class ErrorsTest(unittest.TestCase):
    def test_errors_in_their_order_for_any_objects(self):
        dice = new_dice()
        books = wrong_ones(BOOK[1:3], lambda each: reference.is_book(TABLES, each))
        tables = [each for each in THINGS if not isinstance(each, str) or each not in TABLES]
        columns = [each for each in THINGS if each not in ('id', 'of')] + ['at', 'by', 'town', ('town', 'id')]
        check_errors(self, looks, [SCHEMA, BOOK], [(1, InvalidBook, books)], dice)
        check_errors(self, own_looks, [SCHEMA, BOOK, 'town'], [(1, InvalidBook, books), (2, UnknownTable, tables)], dice)
        check_errors(self, looks_into, [SCHEMA, BOOK, 'town', 'id'], [
            (1, InvalidBook, books), (2, UnknownTable, tables), (3, UnknownColumn, columns)], dice)
        check_errors(self, looks_through, [SCHEMA, BOOK, 'town'], [(1, InvalidBook, books)], dice)

    def test_the_book_comes_first_beside_an_odd_kind(self):
        for thing in THINGS + list(variations(('town', YES))):
            with self.assertRaises(InvalidBook):
                looks_through(SCHEMA, None, thing)


if __name__ == '__main__':
    unittest.main()
