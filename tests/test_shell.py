import inspect
import unittest

from rulesmerged import errors
from rulesmerged.errors import (BookBroken, DuplicateName, InvalidKinds, InvalidLine, InvalidName, InvalidNames, InvalidRows, InvalidWays,
                                MergeBroken, NotLet, NothingToUndo, ParseError, UnknownCopy, UnknownFlag, UnknownRow, UnknownStore,
                                UnknownTable)
from rulesmerged.schemas import Schema
from rulesmerged.shell import Shell
from rulesmerged.stores import Store
from rulesmerged.texts import format_book, format_schema, parse_book, parse_schema
from tests import reference
from tests.test_stores import OLD_SCHEMA, OLD_TABLES, OLD_WAYS, OPEN, tell
from tests.things import THINGS, new_dice, random_terms

SCHEMA_WORD = 'table,shop/column,at,town/column,by,man/flag,open/table,town/column,id,town/flag,old/flag,shut'
BOOK_WORD = 'shop,or,not,flag,open,has,at,town,id,not,flag,shut'
WAYS_WORD = 'drop,turned/keep,on,off'
KINDS_WORD = 'put.town,put.shop,drop.shop,on.town.old,off.town.shut'
OPENING = f'open main {SCHEMA_WORD} {BOOK_WORD} {WAYS_WORD} {KINDS_WORD}'


def word_of(text):
    return text.replace('\n', '/').replace(' ', ',') or '-'


def opening(name, schema, book, ways, kinds):
    ways_word = '/'.join([','.join((drop,) + words) for drop, words in [ways[table] for table in schema.tables]])
    kinds_word = ','.join(['.'.join(kind) for kind in kinds]) or '-'
    return ' '.join(['open', name, word_of(format_schema(schema)), word_of(format_book(book)), ways_word, kinds_word])


def shown(rows):
    found = []
    for values, flags in rows:
        letters = ''.join(['ny'[flag] for flag in flags]) or '-'
        found.append(','.join(map(str, values)) + ':' + letters)
    return ' '.join(found) or 'none'


def all_of(shell):
    """All that can be seen of a shell."""
    told = {}
    for name in shell.run('stores').replace('none', '').split():
        told[name] = [shell.run(f'show {name} {table}') for table in ('shop', 'town')]
        for copy in shell.run(f'copies {name}').replace('none', '').split():
            told[name, copy] = [shell.run(f'show {name} {copy} {table}') for table in ('shop', 'town')] + [shell.run(f'changes {name} {copy}')]
    return told


def filled_shell():
    shell = Shell()
    for line in (OPENING, 'begin main a', 'put main a town 1 nn', 'put main a town 2 yy', 'put main a shop 1,7 y', 'merge main a', 'begin main a',
                 'begin main b', 'turn main b town 0 old'):
        shell.run(line)
    return shell


class LinesTest(unittest.TestCase):
    def run_all(self, shell, *pairs):
        for line, answer in pairs:
            self.assertEqual(shell.run(line), answer, line)

    def test_a_session(self):
        self.run_all(
            Shell(), ('stores', 'none'), (OPENING, 'ok'), ('stores', 'main'), ('copies main', 'none'), ('show main shop', 'none'), ('safe main', 'yes'),
            ('begin main b', 'ok'), ('begin main a', 'ok'), ('copies main', 'a b'), ('changes main a', 'none'),
            ('put main a town 1 nn', '0'), ('put main a town 999999999 yn', '1'), ('put main a shop 1,0 y', '0'), ('show main a town', '1:nn 999999999:yn'),
            ('show main a shop', '1,0:y'), ('show main town', 'none'), ('show main b town', 'none'), ('turn main a town 1 old', 'ok'),
            ('changes main a', 'put.shop put.town'), ('drop main a town 1', 'ok'), ('show main a town', '1:nn'), ('undo main', 'ok'),
            ('show main a town', '1:nn 999999999:nn'), ('merge main b,a', 'ok'), ('copies main', 'none'), ('show main town', '1:nn 999999999:nn'),
            ('show main shop', '1,0:y'), ('begin main c', 'ok'), ('drop main c shop 0', 'ok'), ('turn main c town 0 old', 'ok'),
            ('changes main c', 'drop.shop on.town.old'), ('show main c town', '1:yn 999999999:nn'), ('merge main -', 'ok'), ('copies main', 'none'),
            ('undo main', 'ok'), ('copies main', 'c'), ('merge main c', 'ok'), ('show main shop', 'none'), ('show main town', '1:yn 999999999:nn'),
            ('close main', 'ok'), ('stores', 'none'))

    def test_several_stores(self):
        shell = Shell()
        self.run_all(
            shell, (OPENING, 'ok'), ('open b table,t/column,c,k - drop put.t', 'ok'), ('open a table,t/column,c,k/flag,f t,yes keep,turned -', 'ok'), ('stores', 'a b main'),
            ('begin b x', 'ok'), ('put b x t 12 -', '0'), ('show b x t', '12:-'), ('merge b x', 'ok'), ('show b t', '12:-'), ('show a t', 'none'),
            ('safe a', 'yes'), ('safe b', 'yes'), ('close b', 'ok'), ('stores', 'a main'), ('open b table,t/column,c,k - drop -', 'ok'), ('show b t', 'none'))

    def test_all_stores_are_apart(self):
        first, second = Shell(), Shell()
        first.run(OPENING)
        self.assertEqual(second.run('stores'), 'none')

    def test_safe(self):
        shell, line = Shell(), 'open {} table,shop/column,at,town/table,town/column,id,town shop,has,at,town,id,yes drop/{} put.shop,drop.town'
        shell.run(line.format('a', 'drop'))
        shell.run(line.format('b', 'keep'))
        self.assertEqual([shell.run('safe a'), shell.run('safe b')], ['no', 'yes'])

    def test_open_opens_what_the_words_tell(self):
        schema = parse_schema(SCHEMA_WORD.replace('/', '\n').replace(',', ' '))
        self.assertEqual(schema, OLD_SCHEMA)
        self.assertEqual(parse_book(schema, BOOK_WORD.replace('/', '\n').replace(',', ' ')), OPEN)
        self.assertEqual(opening('main', OLD_SCHEMA, OPEN, OLD_WAYS, [tuple(kind.split('.')) for kind in KINDS_WORD.split(',')]), OPENING)

    def test_names_and_parameter(self):
        self.assertEqual(list(inspect.signature(Shell.run).parameters), ['self', 'line'])
        self.assertEqual(list(inspect.signature(Shell).parameters), [])
        self.assertEqual(Shell().run(line='stores'), 'none')


class StoresTest(unittest.TestCase):
    def test_random_lines_do_what_the_calls_of_a_store_do(self):
        dice, many = new_dice(), {}
        for _ in range(60):
            tables, book, ways, (kinds, _) = random_terms(dice, dice.choice([0, 1, 2]))
            schema, kinds = Schema(tables), kinds if dice.random() < 0.5 else reference.changes(tables)
            shell, store = Shell(), Store(schema, book, ways, kinds)
            self.assertEqual(shell.run(opening('main', schema, book, ways, kinds)), 'ok')
            for _ in range(70):
                name, table = dice.choice(store.names * 4 + ['a', 'b', 'c', 'A']), dice.choice(sorted(tables) * 4 + ['none', 'x'])
                index = dice.choice([0, 0, 1, 2])
                columns, flags = tables.get(table, ((('at', 'k'),), ('old',)))
                values = tuple([dice.choice([0, 1, 2, 10, 999999999]) for _ in columns])
                own = tuple([dice.random() < 0.5 for _ in flags])
                flag = dice.choice(list(flags) + ['old', 'at'])
                chosen = dice.sample(store.names, dice.randint(0, min(2, len(store.names))))
                put = shown([(values, own)]).replace(':', ' ')
                line, word, *arguments = dice.choice([
                    (f'begin main {name}', 'begin', name), (f'put main {name} {table} {put}', 'put', name, table, values, own),
                    (f'put main {name} {table} {put}', 'put', name, table, values, own),
                    (f'turn main {name} {table} {index} {flag}', 'turn', name, table, index, flag),
                    (f'drop main {name} {table} {index}', 'drop', name, table, index),
                    (f'turn main {name} {table} {index} {flag}', 'turn', name, table, index, flag),
                    (f"merge main {','.join(chosen) or '-'}", 'merge', chosen), ('undo main', 'undo')])
                told = tell(store, word, *arguments)
                if told[0] == 'told':
                    told = ('told', 'ok' if told[1] is None else str(told[1]))
                self.assertEqual(tell(shell, 'run', line), told, line)
                many[word, told[0]] = many.get((word, told[0]), 0) + 1
                self.assertEqual(shell.run('copies main'), ' '.join(store.names) or 'none')
                self.assertEqual(shell.run('safe main'), 'yes' if store.is_safe() else 'no')
                for own_table in tables:
                    self.assertEqual(shell.run(f'show main {own_table}'), shown(store.base[own_table]))
                    for copy in store.names:
                        self.assertEqual(shell.run(f'show main {copy} {own_table}'), shown(store.rows(copy)[own_table]))
                for copy in store.names:
                    self.assertEqual(shell.run(f'changes main {copy}'), ' '.join(['.'.join(kind) for kind in store.done_in(copy)]) or 'none')
        for word in ('begin', 'put', 'drop', 'turn', 'merge', 'undo'):
            self.assertGreater(many[word, 'told'], 10)


class ErrorsTest(unittest.TestCase):
    def check(self, error, *lines):
        shell = filled_shell()
        before = all_of(shell)
        for line in lines:
            with self.assertRaises(error) as caught:
                shell.run(line)
            self.assertIs(type(caught.exception), error, line)
            self.assertEqual(all_of(shell), before)

    def test_no_lines(self):
        self.check(InvalidLine, *THINGS)
        right = [OPENING, 'close main', 'begin main c', 'put main a town 1 nn', 'drop main a town 0', 'turn main a town 0 old', 'merge main a',
                 'undo main', 'show main a town', 'show main town', 'copies main', 'changes main a', 'safe main', 'stores']
        for line in right:
            words = line.split(' ')
            self.check(InvalidLine, ' ' + line, line + ' ', line + '\n', '\n' + line, line.upper(), line.replace(' ', '  ') + ' ', [line], (line,), line.encode())
            self.check(InvalidLine, ' '.join(words + ['more', 'more']), ' '.join(['x' + words[0]] + words[1:]), words)
            if len(words) > 1:
                self.check(InvalidLine, line.replace(' ', '  '), line.replace(' ', '  ', 1), line.replace(' ', '\t'), line.replace(' ', '\n', 1), words[0])
            if words[0] != 'show':
                self.check(InvalidLine, line + ' more')
            if words[0] not in ('show', 'stores') or len(words) == 3:
                self.check(InvalidLine, ' '.join(words[:-1]))
        self.check(InvalidLine, '', ' ', '\n', 'stores main', 'show main', 'show main a town 0', 'show', 'open', 'begin main a\n', 'begin main\na', 'stores\t')

    def test_words_may_hold_all_but_spaces_and_line_feeds(self):
        self.check(UnknownStore, 'copies main\t', 'close a"b', "safe '", 'undo -', 'copies main,main')
        self.check(InvalidName, 'begin main a\t', 'begin main A', 'begin main yes', 'begin main abcdefghi', 'begin main a,b', 'begin main -')

    def test_open(self):
        rest = OPENING.split(' ')[2:]
        schema, book, ways, kinds = rest
        self.check(InvalidName, *[f'open {name} {" ".join(rest)}' for name in ('A', 'and', 'abcdefghi', '-', 'a1', 'main\t')])
        self.check(InvalidName, 'open Main x x x x')
        self.check(DuplicateName, OPENING, 'open main x x x x')
        for word in ('-', 'table', 'table,town', 'table,town/column,id', schema + '/', '/' + schema, schema.replace(',', '.'), 'x', schema + '/table,shop'):
            self.check(ParseError, f'open other {word} {book} {ways} {kinds}', f'open other {word} x x x')
        for word in ('x', ',', '/', book + '/', book + ',yes', 'shop', 'town,-', '-,-', '/'.join([book] * 7), book.replace(',', '.')):
            self.check(ParseError, f'open other {schema} {word} {ways} {kinds}', f'open other {schema} {word} x x')
        for word in ('-', 'drop', 'drop,turned', 'drop,turned/keep,on', 'drop,turned/keep,on,off/drop', 'keep,on,off/drop,turned', 'drop,turned/keep,on,of',
                     'drop,turned/keep,on,off,', 'drop,turned/,on,off', 'Drop,turned/keep,on,off', 'drop,/keep,on,off', '/', 'drop,turned/keep/on,off'):
            self.check(InvalidWays, f'open other {schema} {book} {word} {kinds}', f'open other {schema} - {word} x')
        for word in ('put', 'put.town,put.town', 'put.town,', ',', '.', 'put.man', 'on.town', 'on.town.open', 'put.town.old', 'put,town', 'Put.town', '-,-', 'put.town/put.shop',
                     'on.town.old.old', 'put.town,-', '-,put.town'):
            self.check(InvalidKinds, f'open other {schema} {book} {ways} {word}')

    def test_lines_of_parse_errors(self):
        for schema, book, line in (('table,t/column,c/x', '-', 1), ('x', 'x', 0), ('table,t', '-', 1), ('table,t/column,c,k', 't,yes/t,no', 1),
                                   ('table,t/column,c,k', '/'.join(['t,yes'] * 7), 7), ('column,c,k/table,t', 'x', 2)):
            with self.assertRaises(ParseError) as caught:
                Shell().run(f'open a {schema} {book} drop -')
            self.assertEqual(caught.exception.line, line)

    def test_unknown_stores_come_first(self):
        self.check(UnknownStore, 'close other', 'begin other -', 'put other - - - -', 'drop other - - -', 'turn other - - - -', 'merge other c', 'undo other',
                   'show other - -', 'show other -', 'copies other', 'changes other -', 'safe other', 'safe MAIN')

    def test_copies_and_tables(self):
        self.check(DuplicateName, 'begin main a', 'begin main b')
        self.check(UnknownCopy, 'put main c - - -', 'drop main c - -', 'turn main c - - -', 'show main c man', 'changes main c', 'changes main -', 'show main A town')
        self.check(UnknownTable, 'put main a man - -', 'drop main a man -', 'turn main a man - -', 'show main a man', 'show main man', 'show main a', 'show main a a')

    def test_rows_of_put(self):
        self.check(InvalidRows, *[f'put main a town {word} nn' for word in (
            '-', '1,', ',1', '1,2', '01', '00', '-1', '+1', '1.0', '1234567890', '0000000001', 'x', '1x', '1_0', '1,,2', 'one', '\t1', '1\t')])
        self.check(InvalidRows, *[f'put main a town 1 {word}' for word in ('-', 'n', 'nnn', 'nx', 'NY', 'n,n', 'yy-', '--', '10', 'n\t', 'True', 'y-')])
        self.check(InvalidRows, 'put main a shop 1 y', 'put main a shop 1,2,3 y', 'put main a shop 1,02 y', 'put main a shop 1,2 -', 'put main a shop 1,2 yy',
                   'put main a shop 1,1234567890 y')
        shell = filled_shell()
        self.assertEqual([shell.run('put main a town 0 yn'), shell.run('put main a town 100000000 nn')], ['2', '3'])
        shell.run('open plain table,t/column,c,k - drop put.t')
        shell.run('begin plain a')
        for word in ('y', 'n', '--', 'nn', 'none'):
            with self.assertRaises(InvalidRows):
                shell.run(f'put plain a t 1 {word}')

    def test_indexes(self):
        for word in ('2', '-', '-1', '+0', '00', '01', '0.', 'x', '1234567890', '0000000000', '999999999', 'old', '0\t', '0,1', '\u00b2', '\u0661'):
            self.check(UnknownRow, f'drop main a town {word}', f'turn main a town {word} old', f'turn main a town {word} open')
        self.check(UnknownRow, 'drop main b shop 1')
        self.check(UnknownFlag, 'turn main a town 0 open', 'turn main a shop 0 old', 'turn main a town 0 -', 'turn main a town 0 id')

    def test_what_is_not_let(self):
        self.check(NotLet, 'drop main a town 0', 'turn main a town 1 old', 'turn main a town 0 shut', 'turn main a shop 0 open')

    def test_merges(self):
        self.check(InvalidNames, 'merge main c', 'merge main a,c', 'merge main a,a', 'merge main a,', 'merge main ,', 'merge main -,a', 'merge main a.b', 'merge main a/b')
        shell = filled_shell()
        shell.run('put main b shop 9,9 y')
        with self.assertRaises(BookBroken):
            shell.run('merge main a,b')
        shell = Shell()
        for line in ('open main table,shop/column,at,town/table,town/column,id,town shop,has,at,town,id,yes drop/drop put.shop,drop.town,put.town', 'begin main a',
                     'put main a town 3 -', 'merge main a', 'begin main a', 'begin main b', 'put main a shop 3 -', 'drop main b town 0'):
            shell.run(line)
        with self.assertRaises(MergeBroken):
            shell.run('merge main a,b')
        self.assertEqual([shell.run('copies main'), shell.run('merge main b'), shell.run('show main town')], ['a b', 'ok', 'none'])

    def test_undo(self):
        shell = Shell()
        shell.run(OPENING)
        for _ in range(2):
            with self.assertRaises(NothingToUndo):
                shell.run('undo main')
        shell.run('begin main a')
        self.assertEqual([shell.run('undo main'), shell.run('copies main')], ['ok', 'none'])

    def test_all_errors_are_own_ones(self):
        dice, shell = new_dice(), filled_shell()
        words = ['main', 'other', 'a', 'b', 'town', 'shop', 'old', '0', '1', '1,7', 'nn', 'y', '-', '', 'open', 'show', 'put', 'begin', 'merge', 'x' * 9, '/', ',', '.']
        first = ['open', 'close', 'begin', 'put', 'drop', 'turn', 'merge', 'undo', 'show', 'copies', 'changes', 'safe', 'stores', 'nosuch']
        told = {}
        for _ in range(4000):
            line = ' '.join([dice.choice(first)] + [dice.choice(words) for _ in range(dice.randint(0, 5))])
            try:
                self.assertIs(type(shell.run(line)), str)
            except errors.ApartError as error:
                told[type(error).__name__] = told.get(type(error).__name__, 0) + 1
            if shell.run('stores') == 'none':
                shell = filled_shell()
        self.assertGreater(len(told), 6)
        self.assertEqual(OLD_TABLES, {table: (OLD_SCHEMA.columns(table), OLD_SCHEMA.flags(table)) for table in OLD_SCHEMA.tables})


if __name__ == '__main__':
    unittest.main()
