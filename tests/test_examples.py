"""The examples of the document, as they stand there."""

import doctest
import unittest

from rulesmerged import errors

SCHEMAS = '''
>>> from rulesmerged.schemas import Schema
>>> schema = Schema({'town': ((('id', 'town'),), ('old',)), 'shop': ((('at', 'town'),), ())})
>>> [schema.tables, schema.places('town')]
[['shop', 'town'], [('shop', 'at'), ('town', 'id')]]
>>> schema.changes
[('drop', 'shop'), ('drop', 'town'), ('off', 'town', 'old'), ('on', 'town', 'old'), ('put', 'shop'), ('put', 'town')]
'''

ROWS = '''
>>> from rulesmerged.rows import beside, rows_at
>>> from rulesmerged.schemas import Schema
>>> schema = Schema({'town': ((('id', 'town'),), ('old',))})
>>> rows = {'town': [((1,), (True,)), ((1,), (False,))]}
>>> [rows_at(schema, rows, 'town', 'id', 1), beside(schema, rows, {'town': [((0,), (True,))]})]
[[0, 1], {'town': [((1,), (True,)), ((1,), (False,)), ((2,), (True,))]}]
'''

CONDITIONS = '''
>>> from rulesmerged.conditions import depth, has_parts, meets
>>> from rulesmerged.schemas import Schema
>>> schema = Schema({'shop': ((('at', 'town'),), ('open',)), 'town': ((('id', 'town'),), ('old',))})
>>> rows = {'shop': [((1,), (True,)), ((2,), (False,))], 'town': [((1,), (True,)), ((2,), (False,))]}
>>> condition = ('and', ('not', ('flag', 'old')), ('has', 'id', 'shop', 'at', ('flag', 'open')))
>>> [depth(condition), has_parts('town', condition), [meets(schema, rows, 'town', index, condition[2]) for index in range(2)]]
[1, [('town', 'id', 'shop', 'at', ('flag', 'open'))], [True, False]]
'''

TEXTS = r'''
>>> from rulesmerged.schemas import Schema
>>> from rulesmerged.texts import format_book, parse_book
>>> schema = Schema({'shop': ((('at', 'town'),), ('open',)), 'town': ((('id', 'town'),), ('old',))})
>>> book = parse_book(schema, 'shop has at town id yes\ntown not flag old')
>>> book
[('shop', ('has', 'at', 'town', 'id', ('yes',))), ('town', ('not', ('flag', 'old')))]
>>> parse_book(schema, 'town yes\nshop flag old')
raises ParseError(1)
'''

BOOKS = '''
>>> from rulesmerged.books import broken, keeps
>>> from rulesmerged.schemas import Schema
>>> schema = Schema({'shop': ((('at', 'town'),), ('open',)), 'town': ((('id', 'town'),), ('old',))})
>>> book = [('shop', ('has', 'at', 'town', 'id', ('yes',))), ('town', ('not', ('flag', 'old')))]
>>> rows = {'shop': [((1,), (True,)), ((2,), (True,))], 'town': [((1,), (True,))]}
>>> [broken(schema, book, rows), keeps(schema, book, {'shop': [], 'town': []})]
[[(0, 1), (1, 0)], True]
'''

COPIES = '''
>>> from rulesmerged.copies import changes_of, copy_rows, unchanged
>>> from rulesmerged.schemas import Schema
>>> schema = Schema({'town': ((('id', 'town'),), ('old',))})
>>> base, copy = {'town': [((1,), (True,)), ((2,), (False,))]}, {'town': ([None, (True,)], [((3,), (True,))])}
>>> [copy_rows(schema, base, copy), changes_of(schema, base, copy)]
[{'town': [((2,), (True,)), ((3,), (True,))]}, [('drop', 'town'), ('on', 'town', 'old'), ('put', 'town')]]
>>> unchanged(schema, base)
{'town': ([(True,), (False,)], [])}
'''


class ExamplesTest(unittest.TestCase):
    def run_examples(self, text):
        names, lines = {}, text.strip().split('\n')
        for at, line in enumerate(lines):
            if not line.startswith('>>> '):
                continue
            answer = lines[at + 1] if at + 1 < len(lines) and not lines[at + 1].startswith('>>> ') else None
            if answer is None:
                exec(line[4:], names)
            elif answer.startswith('raises '):
                self.fails(line[4:], names, answer[7:])
            else:
                self.assertEqual(repr(eval(line[4:], names)), answer, line)

    def fails(self, expression, names, error):
        name, _, rest = error.partition('(')
        with self.assertRaises(getattr(errors, name)) as caught:
            eval(expression, names)
        if rest:
            self.assertEqual(caught.exception.line, int(rest.rstrip(')')))

    def test_schemas(self):
        self.run_examples(SCHEMAS)

    def test_rows(self):
        self.run_examples(ROWS)

    def test_conditions(self):
        self.run_examples(CONDITIONS)

    def test_texts(self):
        self.run_examples(TEXTS)

    def test_books(self):
        self.run_examples(BOOKS)

    def test_copies(self):
        self.run_examples(COPIES)

    def test_readme(self):
        told = doctest.testfile('../README.md')
        self.assertEqual(told.failed, 0)
        self.assertGreater(told.attempted, 5)


if __name__ == '__main__':
    unittest.main()
