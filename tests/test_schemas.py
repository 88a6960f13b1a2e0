import unittest

from rulesmerged.errors import InvalidSchema, UnknownColumn, UnknownTable
from rulesmerged.schemas import Schema, is_name
from tests import reference
from tests.things import TABLES, THINGS, turned_round, variations

TOWN = ((('id', 'town'),), ('old',))


class NameTest(unittest.TestCase):
    def test_names(self):
        for name in ('a', 'z', 'town', 'abcdefgh', 'zzzzzzzz', 'put', 'drop', 'on', 'off', 'table', 'column', 'yesno'):
            self.assertIs(is_name(name), True, name)

    def test_no_names(self):
        for thing in ('and', 'or', 'not', 'has', 'yes', 'flag', '', 'abcdefghi', 'Town', 'TOWN', 'town\n', '\ntown', 'a b',
                      'a1', '1', 'a_b', 'a-b', ' a', 'a ', '\t', '`', '{', '\u00e9', '\u00df', '\u0430', 'a\u0301', b'a'):
            self.assertIs(is_name(thing), False, thing)

    def test_any_object(self):
        for thing in THINGS:
            self.assertIs(is_name(thing), reference.is_name(thing), repr(thing)[:60])
            self.assertIs(is_name(thing=thing), reference.is_name(thing))


class SchemaFormTest(unittest.TestCase):
    def told(self, thing):
        try:
            return Schema(thing).tables == sorted(thing)
        except InvalidSchema:
            return False

    def test_any_object(self):
        for thing in THINGS:
            self.assertIs(self.told(thing), reference.are_tables(thing), repr(thing)[:60])

    def test_variations(self):
        told = []
        for thing in variations({'town': (TOWN[0] + (('of', 'x'),), ('old', 'shut')), 'shop': ((('at', 'town'),), ())}):
            told.append(self.told(thing))
            self.assertIs(told[-1], reference.are_tables(thing), repr(thing))
        self.assertGreater(told.count(True), 10)
        self.assertGreater(told.count(False), 300)

    def test_numbers_of_tables_columns_and_flags(self):
        names = 'abcde'
        for many in range(6):
            self.assertIs(self.told({name: TOWN for name in names[:many]}), 1 <= many <= 4)
            columns = tuple([(name, 'kind') for name in names[:many]])
            self.assertIs(self.told({'town': (columns, ())}), 1 <= many <= 3)
            self.assertIs(self.told({'town': (TOWN[0], tuple(names[:many]))}), many <= 2)

    def test_equal_names(self):
        self.assertFalse(self.told({'town': ((('id', 'a'), ('id', 'b')), ())}))
        self.assertFalse(self.told({'town': (TOWN[0], ('old', 'old'))}))
        self.assertFalse(self.told({'town': (TOWN[0], ('id',))}))
        self.assertFalse(self.told({'town': (TOWN[0], ('old', 'id'))}))
        self.assertTrue(self.told({'id': ((('old', 'id'),), ('id',)), 'old': ((('id', 'id'),), ('old',))}))

    def test_words_and_great_letters_as_names(self):
        for name in ('and', 'or', 'not', 'has', 'yes', 'flag', '', 'Old', 'abcdefghi', 'old\n'):
            self.assertFalse(self.told({name: TOWN}))
            self.assertFalse(self.told({'town': (((name, 'town'),), ())}))
            self.assertFalse(self.told({'town': ((('id', name),), ())}))
            self.assertFalse(self.told({'town': (TOWN[0], (name,))}))

    def test_keys_that_are_no_names(self):
        for key in (0, True, None, ('town',), (('a', None),), ''):
            self.assertFalse(self.told({key: TOWN}))
            self.assertFalse(self.told({'town': TOWN, key: TOWN}))


class SchemaTest(unittest.TestCase):
    def setUp(self):
        self.schema = Schema(tables=TABLES)

    def test_tables_and_changes_ascend(self):
        self.assertEqual(self.schema.tables, ['man', 'shop', 'town'])
        self.assertEqual(self.schema.changes, [
            ('drop', 'man'), ('drop', 'shop'), ('drop', 'town'), ('off', 'shop', 'open'), ('off', 'town', 'old'),
            ('off', 'town', 'shut'), ('on', 'shop', 'open'), ('on', 'town', 'old'), ('on', 'town', 'shut'),
            ('put', 'man'), ('put', 'shop'), ('put', 'town')])
        self.assertEqual(Schema({'b': ((('x', 'y'),), ('q', 'p'))}).changes, [
            ('drop', 'b'), ('off', 'b', 'p'), ('off', 'b', 'q'), ('on', 'b', 'p'), ('on', 'b', 'q'), ('put', 'b')])

    def test_columns_and_flags_are_those_that_were_passed(self):
        schema = Schema({'b': ((('z', 'y'), ('a', 'x')), ('q', 'p'))})
        self.assertEqual([schema.columns('b'), schema.flags('b')], [(('z', 'y'), ('a', 'x')), ('q', 'p')])
        self.assertEqual([schema.columns(table='b'), schema.flags(table='b')], [schema.columns('b'), ('q', 'p')])
        self.assertEqual(self.schema.flags('man'), ())

    def test_kinds_and_places(self):
        self.assertEqual(self.schema.kind_of('shop', 'by'), 'man')
        self.assertEqual(self.schema.kind_of(table='town', column='of'), 'town')
        self.assertEqual(self.schema.places('town'), [('shop', 'at'), ('town', 'id'), ('town', 'of')])
        self.assertEqual(self.schema.places(kind='man'), [('man', 'id'), ('shop', 'by')])
        schema = Schema({'b': ((('z', 'y'), ('m', 'y'), ('a', 'y')), ()), 'a': ((('q', 'y'),), ())})
        self.assertEqual(schema.places('y'), [('a', 'q'), ('b', 'a'), ('b', 'm'), ('b', 'z')])

    def test_unknown_tables_for_any_object(self):
        for thing in THINGS:
            if thing in ('town', 'shop'):
                continue
            for call in (self.schema.columns, self.schema.flags, lambda it: self.schema.kind_of(it, 'id'),
                         lambda it: self.schema.kind_of(it, 'nosuch'), lambda it: self.schema.kind_of(it, [])):
                with self.assertRaises(UnknownTable):
                    call(thing)

    def test_unknown_columns_for_any_object(self):
        for thing in THINGS + [('id', 'town'), 'old', 'nosuch', 'by']:
            if thing not in ('id', 'of'):
                with self.assertRaises(UnknownColumn):
                    self.schema.kind_of('town', thing)

    def test_no_places_for_any_object(self):
        for thing in THINGS + ['nosuch', 'id', ['town'], ('town',)]:
            if thing != 'town':
                self.assertEqual(self.schema.places(thing), [])
        first, second = self.schema.places('nosuch'), self.schema.places('nosuch')
        self.assertIsNot(first, second)

    def test_equal(self):
        self.assertTrue(self.schema == Schema(turned_round(TABLES)))
        self.assertFalse(self.schema != Schema(dict(TABLES)))
        for other in ({'town': TOWN}, {**TABLES, 'x': TOWN}, {**TABLES, 'man': ((('id', 'man'),), ('old',))},
                      {**TABLES, 'man': ((('id', 'town'),), ())}, {**TABLES, 'man': ((('of', 'man'),), ())},
                      {**TABLES, 'town': (TABLES['town'][0], ('shut', 'old'))},
                      {**TABLES, 'town': (TABLES['town'][0][::-1], ('old', 'shut'))},
                      {'men': TABLES['man'], 'shop': TABLES['shop'], 'town': TABLES['town']}):
            self.assertIs(self.schema == Schema(other), False)
            self.assertIs(Schema(other) == self.schema, False)
            self.assertIs(self.schema != Schema(other), True)

    def test_no_other_object_is_equal(self):
        for thing in THINGS + [TABLES]:
            self.assertIs(self.schema == thing, False)
            self.assertIs(thing == self.schema, False)
            self.assertIs(self.schema != thing, True)

    def test_stands_apart_from_what_it_was_passed(self):
        tables = dict(TABLES)
        schema = Schema(tables)
        tables['more'] = TOWN
        del tables['town']
        tables['man'] = TOWN
        self.assertEqual(schema, self.schema)
        self.assertEqual(schema.tables, ['man', 'shop', 'town'])

    def test_stands_apart_from_what_it_returned(self):
        for take in (lambda: self.schema.tables, lambda: self.schema.changes, lambda: self.schema.places('town')):
            before = take()
            self.assertIsNot(take(), take())
            take().clear()
            take().append('x')
            self.assertEqual(take(), before)


if __name__ == '__main__':
    unittest.main()
