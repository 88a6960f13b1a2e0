"""The examples of the document, as they stand there."""

import doctest
import unittest

from rulesmerged import errors

SCHEMAS = '''
>>> from rulesmerged.schemas import Schema
>>> schema = Schema({'town': ((('id', 'town'),), ('old',)), 'shop': ((('at', 'town'),), ())})
>>> [schema.tables, schema.places('town')]
[['shop', 'town'], [('shop', 'at'), ('town', 'id')]]
>>> schema.changes
[('drop', 'shop'), ('drop', 'town'), ('off', 'town', 'old'), ('on', 'town', 'old'), ('put', 'shop'), ('put', 'town')]
'''

ROWS = '''
>>> from rulesmerged.rows import beside, rows_at
>>> from rulesmerged.schemas import Schema
>>> schema = Schema({'town': ((('id', 'town'),), ('old',))})
>>> rows = {'town': [((1,), (True,)), ((1,), (False,))]}
>>> [rows_at(schema, rows, 'town', 'id', 1), beside(schema, rows, {'town': [((0,), (True,))]})]
[[0, 1], {'town': [((1,), (True,)), ((1,), (False,)), ((2,), (True,))]}]
'''

CONDITIONS = '''
>>> from rulesmerged.conditions import depth, has_parts, meets
>>> from rulesmerged.schemas import Schema
>>> schema = Schema({'shop': ((('at', 'town'),), ('open',)), 'town': ((('id', 'town'),), ('old',))})
>>> rows = {'shop': [((1,), (True,)), ((2,), (False,))], 'town': [((1,), (True,)), ((2,), (False,))]}
>>> condition = ('and', ('not', ('flag', 'old')), ('has', 'id', 'shop', 'at', ('flag', 'open')))
>>> [depth(condition), has_parts('town', condition), [meets(schema, rows, 'town', index, condition[2]) for index in range(2)]]
[1, [('town', 'id', 'shop', 'at', ('flag', 'open'))], [True, False]]
'''

TEXTS = r'''
>>> from rulesmerged.schemas import Schema
>>> from rulesmerged.texts import format_book, parse_book
>>> schema = Schema({'shop': ((('at', 'town'),), ('open',)), 'town': ((('id', 'town'),), ('old',))})
>>> book = parse_book(schema, 'shop has at town id yes\ntown not flag old')
>>> book
[('shop', ('has', 'at', 'town', 'id', ('yes',))), ('town', ('not', ('flag', 'old')))]
>>> parse_book(schema, 'town yes\nshop flag old')
raises ParseError(1)
'''

BOOKS = '''
>>> from rulesmerged.books import broken, keeps
>>> from rulesmerged.schemas import Schema
>>> schema = Schema({'shop': ((('at', 'town'),), ('open',)), 'town': ((('id', 'town'),), ('old',))})
>>> book = [('shop', ('has', 'at', 'town', 'id', ('yes',))), ('town', ('not', ('flag', 'old')))]
>>> rows = {'shop': [((1,), (True,)), ((2,), (True,))], 'town': [((1,), (True,))]}
>>> [broken(schema, book, rows), keeps(schema, book, {'shop': [], 'town': []})]
[[(0, 1), (1, 0)], True]
'''

COPIES = '''
>>> from rulesmerged.copies import changes_of, copy_rows, unchanged
>>> from rulesmerged.schemas import Schema
>>> schema = Schema({'town': ((('id', 'town'),), ('old',))})
>>> base, copy = {'town': [((1,), (True,)), ((2,), (False,))]}, {'town': ([None, (True,)], [((3,), (True,))])}
>>> [copy_rows(schema, base, copy), changes_of(schema, base, copy)]
[{'town': [((2,), (True,)), ((3,), (True,))]}, [('drop', 'town'), ('on', 'town', 'old'), ('put', 'town')]]
>>> unchanged(schema, base)
{'town': ([(True,), (False,)], [])}
'''

MERGES = '''
>>> from rulesmerged.merges import fewest_breaking, merged
>>> from rulesmerged.schemas import Schema
>>> schema = Schema({'town': ((('id', 'town'),), ('old',))})
>>> base = {'town': [((1,), (False,)), ((1,), (False,))]}
>>> copies = [{'town': ([(True,), None], [])}, {'town': ([(False,), (True,)], [((4,), (False,))])}]
>>> merged(schema, {'town': ('drop', ('turned',))}, base, copies)
{'town': ([(True,), None], [((4,), (False,))])}
>>> merged(schema, {'town': ('keep', ('off',))}, base, copies)
{'town': ([(False,), (True,)], [((4,), (False,))])}
>>> fewest_breaking(schema, [('town', ('not', ('flag', 'old')))], {'town': ('keep', ('off',))}, base, copies[:1] * 2 + copies)
[0]
'''

LOOKS = '''
>>> from rulesmerged.looks import looks, looks_into, looks_through, own_looks
>>> from rulesmerged.schemas import Schema
>>> schema = Schema({'shop': ((('at', 'town'),), ('open',)), 'town': ((('id', 'town'),), ('old',))})
>>> inner = ('has', 'id', 'shop', 'at', ('flag', 'open'))
>>> book = [('town', ('not', ('flag', 'old'))), ('shop', ('has', 'at', 'town', 'id', inner)), ('town', inner)]
>>> [look[:4] for look in looks(schema, book)]
[('shop', 'at', 'town', 'id'), ('town', 'id', 'shop', 'at')]
>>> [own_looks(schema, book, 'town'), looks_into(schema, book, 'town', 'id'), looks_through(schema, book, 'town')]
[[1], [0], [0, 1]]
'''

HISTORIES = '''
>>> from rulesmerged.histories import histories, history_on, is_case
>>> from rulesmerged.schemas import Schema
>>> schema = Schema({'town': ((('id', 'town'),), ('old',))})
>>> book, ways = [('town', ('flag', 'old'))], {'town': ('drop', ('turned',))}
>>> histories(schema, book, ways, ([('drop', 'town')], [('put', 'town')]), 'town')
[('town', (None, None, (True,), (True,)), (None, None, (), ())), ('town', ((True,), None, (True,), None), ((), None, (), None)), ('town', ((True,), (True,), (True,), (True,)), ((), (), (), ()))]
>>> base, copies = {'town': [((1,), (True,))]}, [{'town': ([None], [])}, {'town': ([(True,)], [((2,), (True,))])}]
>>> lets = ([('drop', 'town')], [('put', 'town')])
>>> [is_case(schema, book, ways, lets, base, copies), is_case(schema, book, ways, lets, base, copies[::-1])]
[True, False]
>>> history_on(schema, book, ways, lets, base, copies, ('town', 2, 0))
('town', (None, None, (True,), (True,)), (None, None, (), ()))
'''

LEFT = '''
>>> from rulesmerged.left import histories_left, rounds_of_histories
>>> from rulesmerged.schemas import Schema
>>> schema = Schema({'town': ((('id', 'town'), ('of', 'town')), ())})
>>> book, ways = [('town', ('not', ('has', 'id', 'town', 'id', ('yes',))))], {'town': ('drop', ())}
>>> [rounds_of_histories(schema, book, ways, ([], [])), histories_left(schema, book, ways, ([], []), 'town')]
[{('town', ((), (), (), ()), ((False,), (False,), (False,), (False,))): 1, ('town', ((), (), (), ()), ((False,), (False,), (False,), (True,))): 1}, []]
'''

PAPERS = '''
>>> from rulesmerged.papers import is_paper, paper
>>> from rulesmerged.schemas import Schema
>>> schema = Schema({'town': ((('id', 'town'),), ())})
>>> book, ways = [('town', ('not', ('has', 'id', 'town', 'id', ('yes',))))], {'town': ('drop', ())}
>>> history = ('town', ((), (), (), ()), ((False,), (False,), (False,), (False,)))
>>> [is_paper(schema, book, ways, ([], []), {history: number}) for number in (0, 1, 7)]
[False, True, True]
>>> paper(schema, [], ways, ([], []), ('town', ((), (), (), ()), ((), (), (), ()))) is None
True
'''

KEPT = '''
>>> from rulesmerged.kept import is_kept, kept_rules
>>> from rulesmerged.schemas import Schema
>>> schema = Schema({'shop': ((('at', 'town'),), ()), 'town': ((('id', 'town'),), ())})
>>> book = [('shop', ('has', 'at', 'town', 'id', ('yes',))), ('town', ('yes',))]
>>> ways = {'shop': ('drop', ()), 'town': ('drop', ())}
>>> [is_kept(schema, book, ways, ([('put', 'shop')], [('drop', 'town')])), kept_rules(schema, book, ways, ([('put', 'shop')], [('drop', 'town')]))]
[False, [1]]
>>> is_kept(schema, book, {'shop': ('drop', ()), 'town': ('keep', ())}, ([('put', 'shop')], [('drop', 'town')]))
True
'''

FREE = '''
>>> from rulesmerged.free import greatest_free, is_free, least_bad
>>> from rulesmerged.schemas import Schema
>>> schema = Schema({'shop': ((('at', 'town'),), ()), 'town': ((('id', 'town'),), ())})
>>> book, ways = [('shop', ('has', 'at', 'town', 'id', ('yes',)))], {'shop': ('drop', ()), 'town': ('drop', ())}
>>> [greatest_free(schema, book, ways), least_bad(schema, book, ways)]
[[[('drop', 'shop'), ('put', 'shop'), ('put', 'town')]], [[('drop', 'town')]]]
>>> is_free(schema, book, {'shop': ('drop', ()), 'town': ('keep', ())}, schema.changes)
True
'''

HELD = '''
>>> from rulesmerged.held import greatest_idle, is_enough, least_held
>>> from rulesmerged.schemas import Schema
>>> schema = Schema({'shop': ((('at', 'town'),), ()), 'town': ((('id', 'town'),), ())})
>>> book, ways = [('shop', ('has', 'at', 'town', 'id', ('yes',)))], {'shop': ('drop', ()), 'town': ('drop', ())}
>>> [least_held(schema, book, ways, [('drop', 'town'), ('put', 'town')]), least_held(schema, book, ways, [('drop', 'town'), ('put', 'shop')])]
[[[('drop', 'town')]], []]
>>> [is_enough(schema, book, ways, [('drop', 'shop')], []), greatest_idle(schema, book, ways, [('drop', 'town'), ('put', 'town')])]
[True, [[('put', 'town')]]]
'''

WAYS = '''
>>> from rulesmerged.schemas import Schema
>>> from rulesmerged.ways import all_ways, good_ways
>>> schema = Schema({'town': ((('id', 'town'),), ('old',))})
>>> all_ways(schema)
[{'town': ('drop', ('off',))}, {'town': ('drop', ('on',))}, {'town': ('drop', ('turned',))}, {'town': ('keep', ('off',))}, {'town': ('keep', ('on',))}, {'town': ('keep', ('turned',))}]
>>> len(good_ways(schema, [('town', ('has', 'id', 'town', 'id', ('flag', 'old')))], [('drop', 'town')]))
3
'''

MEETING = '''
>>> from rulesmerged.meeting import always, case_against
>>> from rulesmerged.schemas import Schema
>>> schema = Schema({'town': ((('id', 'town'),), ('busy', 'shut'))})
>>> both, ways = ('and', ('flag', 'busy'), ('flag', 'shut')), {'town': ('drop', ('off', 'turned'))}
>>> lets = ([('on', 'town', 'busy')], [('on', 'town', 'shut')])
>>> [always(schema, [('town', ('not', both))], ways, lets, 'town', ('not', both)), case_against(schema, [], ways, lets, 'town', ('yes',)) is None]
[True, True]
>>> always(schema, [('town', ('not', both))], {'town': ('drop', ('turned', 'turned'))}, lets, 'town', ('not', both))
False
'''

NEEDED = '''
>>> from rulesmerged.needed import greatest_spoilers, least_rules
>>> from rulesmerged.schemas import Schema
>>> schema = Schema({'town': ((('id', 'town'),), ('busy', 'shut'))})
>>> book = [('town', ('flag', 'busy')), ('town', ('or', ('flag', 'busy'), ('flag', 'shut'))), ('town', ('not', ('flag', 'shut')))]
>>> ways, lets = {'town': ('drop', ('turned', 'turned'))}, ([('put', 'town')], [('put', 'town')])
>>> [least_rules(schema, book, ways, lets, 'town', ('flag', 'busy')), greatest_spoilers(schema, book, ways, lets, 'town', ('flag', 'busy'))]
[[[0], [1, 2]], [[1], [2]]]
'''

MENDING = '''
>>> from rulesmerged.mending import does_mend, done
>>> from rulesmerged.schemas import Schema
>>> schema = Schema({'shop': ((('at', 'town'),), ()), 'town': ((('id', 'town'),), ())})
>>> book, ways = [('shop', ('has', 'at', 'town', 'id', ('yes',)))], {'shop': ('drop', ()), 'town': ('drop', ())}
>>> lets, script = ([('put', 'shop')], [('drop', 'town')]), [('drop', 'shop', ('not', ('has', 'at', 'town', 'id', ('yes',))))]
>>> [does_mend(schema, book, ways, lets, script), does_mend(schema, book, ways, lets, []), does_mend(schema, book, ways, lets, [('drop', 'shop', ('yes',))])]
[True, False, True]
>>> done(schema, {'shop': [((1,), ()), ((2,), ())], 'town': [((2,), ())]}, script)
{'shop': [((2,), ())], 'town': [((2,), ())]}
'''

STORES = '''
>>> from rulesmerged.schemas import Schema
>>> from rulesmerged.stores import Store
>>> schema = Schema({'town': ((('id', 'town'),), ('old',))})
>>> store = Store(schema, [('town', ('not', ('flag', 'old')))], {'town': ('drop', ('turned',))}, [('on', 'town', 'old'), ('put', 'town')])
>>> [store.begin('a'), store.put('a', 'town', (1,), (False,)), store.merge(['a']), store.base, store.names, len(store)]
[None, 0, None, {'town': [((1,), (False,))]}, [], 3]
>>> [store.begin('b'), store.turn('b', 'town', 0, 'old'), store.done_in('b'), store.rows('b')]
[None, None, [('on', 'town', 'old')], {'town': [((1,), (True,))]}]
>>> store.is_safe()
True
>>> store.drop('b', 'town', 0)
raises NotLet
'''

SHELL = '''
>>> from rulesmerged.shell import Shell
>>> shell = Shell()
>>> shell.run('open main table,town/column,id,town/flag,old town,not,flag,old drop,turned put.town')
'ok'
>>> [shell.run(line) for line in ['begin main a', 'put main a town 7 n', 'show main a town', 'merge main a', 'show main town', 'copies main', 'stores']]
['ok', '0', '7:n', 'ok', '7:n', 'none', 'main']
'''


class ExamplesTest(unittest.TestCase):
    def run_examples(self, text):
        names, lines = {}, text.strip().split('\n')
        for at, line in enumerate(lines):
            if not line.startswith('>>> '):
                continue
            answer = lines[at + 1] if at + 1 < len(lines) and not lines[at + 1].startswith('>>> ') else None
            if answer is None:
                exec(line[4:], names)
            elif answer.startswith('raises '):
                self.fails(line[4:], names, answer[7:])
            else:
                self.assertEqual(repr(eval(line[4:], names)), answer, line)

    def fails(self, expression, names, error):
        name, _, rest = error.partition('(')
        with self.assertRaises(getattr(errors, name)) as caught:
            eval(expression, names)
        if rest:
            self.assertEqual(caught.exception.line, int(rest.rstrip(')')))

    def test_schemas(self):
        self.run_examples(SCHEMAS)

    def test_rows(self):
        self.run_examples(ROWS)

    def test_conditions(self):
        self.run_examples(CONDITIONS)

    def test_texts(self):
        self.run_examples(TEXTS)

    def test_books(self):
        self.run_examples(BOOKS)

    def test_copies(self):
        self.run_examples(COPIES)

    def test_merges(self):
        self.run_examples(MERGES)

    def test_looks(self):
        self.run_examples(LOOKS)

    def test_histories(self):
        self.run_examples(HISTORIES)

    def test_left(self):
        self.run_examples(LEFT)

    def test_papers(self):
        self.run_examples(PAPERS)

    def test_kept(self):
        self.run_examples(KEPT)

    def test_free(self):
        self.run_examples(FREE)

    def test_held(self):
        self.run_examples(HELD)

    def test_ways(self):
        self.run_examples(WAYS)

    def test_meeting(self):
        self.run_examples(MEETING)

    def test_needed(self):
        self.run_examples(NEEDED)

    def test_mending(self):
        self.run_examples(MENDING)

    def test_stores(self):
        self.run_examples(STORES)

    def test_shell(self):
        self.run_examples(SHELL)

    def test_readme(self):
        told = doctest.testfile('../README.md')
        self.assertEqual(told.failed, 0)
        self.assertGreater(told.attempted, 5)


if __name__ == '__main__':
    unittest.main()
