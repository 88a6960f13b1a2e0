import unittest

from rulesmerged.errors import ParseError, UnknownTable
from rulesmerged.schemas import Schema
from rulesmerged.texts import format_book, format_condition, format_schema, parse_book, parse_condition, parse_schema
from tests import reference
from tests.things import TABLES, THINGS, new_dice, random_condition

SCHEMA = Schema(TABLES)
YES = ('yes',)
BOOK = [('shop', ('has', 'at', 'town', 'id', ('not', ('flag', 'shut')))), ('town', YES), ('man', YES)]
BOOK_TEXT = 'shop has at town id not flag shut\ntown yes\nman yes'
SCHEMA_TEXT = '\n'.join([
    'table man', 'column id man', 'table shop', 'column at town', 'column by man', 'flag open',
    'table town', 'column id town', 'column of town', 'flag old', 'flag shut'])


def changed(text):
    """Texts that differ from a text at one character or one word."""
    for at in range(len(text) + 1):
        yield text[:at] + text[at + 1:]
        for more in ' \n\ta':
            yield text[:at] + more + text[at:]
            yield text[:at] + more + text[at + 1:]
    words = text.split(' ')
    for at in range(len(words)):
        for more in ('yes', 'flag', 'has', 'not', 'and', 'or', 'old', 'id', 'town', 'table', 'column', 'x', '', 'Yes'):
            yield ' '.join(words[:at] + [more] + words[at + 1:])
            yield ' '.join(words[:at] + [more] + words[at:])
        yield ' '.join(words[:at] + words[at + 1:])


class TextTest(unittest.TestCase):
    def fails(self, line, call, *arguments):
        with self.assertRaises(ParseError) as caught:
            call(*arguments)
        self.assertEqual(caught.exception.line, line, repr(arguments[-1])[:200])


class ConditionTextTest(TextTest):
    def test_each_form(self):
        for condition, text in (
                (YES, 'yes'), (('flag', 'old'), 'flag old'), (('not', YES), 'not yes'),
                (('and', YES, ('flag', 'old')), 'and yes flag old'), (('or', ('flag', 'old'), YES), 'or flag old yes'),
                (('has', 'id', 'shop', 'at', ('flag', 'open')), 'has id shop at flag open'),
                (('or', ('and', YES, ('not', YES)), ('and', ('flag', 'shut'), YES)), 'or and yes not yes and flag shut yes')):
            self.assertEqual(format_condition(condition), text)
            self.assertEqual(parse_condition(SCHEMA, 'town', text), condition)
        self.assertEqual(format_condition(condition=YES), 'yes')
        self.assertEqual(parse_condition(schema=SCHEMA, table='town', text='yes'), YES)

    def test_random_conditions_there_and_back(self):
        dice = new_dice()
        for _ in range(500):
            table = dice.choice(list(TABLES))
            condition = random_condition(dice, TABLES, table, 5)
            text = format_condition(condition)
            self.assertEqual(parse_condition(SCHEMA, table, text), condition)
            self.assertEqual(reference.condition_of(TABLES, table, text), condition)

    def test_sixteen_levels_there_and_back(self):
        condition = YES
        for at in range(15):
            condition = ('and', condition, YES) if at % 2 else ('has', 'id', 'town', 'of', condition)
        self.assertEqual(parse_condition(SCHEMA, 'town', format_condition(condition)), condition)

    def test_changed_texts(self):
        told = []
        for text in changed('or has id shop at not flag open and flag old yes'):
            expected = reference.condition_of(TABLES, 'town', text)
            if expected is None:
                self.fails(0, parse_condition, SCHEMA, 'town', text)
            else:
                self.assertEqual(parse_condition(SCHEMA, 'town', text), expected)
            told.append(expected is None)
        self.assertGreater(told.count(False), 5)
        self.assertGreater(told.count(True), 300)

    def test_wrong_texts(self):
        for text in ('', ' ', 'no', 'YES', 'yes ', ' yes', 'yes yes', 'yes\n', '\nyes', 'not  yes', 'not\tyes', 'not\nyes', 'not',
                     'and yes', 'or yes yes yes', 'flag', 'flag open', 'flag yes', 'flag flag', 'flag not yes', 'has id shop',
                     'has id shop at', 'has id shop at yes yes', 'has id shop by yes', 'has yes shop at yes',
                     'has id yes at yes', 'has id flag at yes', 'has id shop at flag old', 'yes\x0b', 'not\r yes'):
            self.fails(0, parse_condition, SCHEMA, 'town', text)

    def test_any_object(self):
        for thing in THINGS:
            if thing != 'yes':
                self.fails(0, parse_condition, SCHEMA, 'town', thing)
            if thing not in ('town', 'shop'):
                for text in (thing, 'yes', None):
                    with self.assertRaises(UnknownTable):
                        parse_condition(SCHEMA, thing, text)

    def test_long_texts_that_are_none(self):
        for text in ('not ' * 100000, 'and ' * 100000 + 'yes', 'yes ' * 100000, 'has id town of ' * 50000 + 'no'):
            self.fails(0, parse_condition, SCHEMA, 'town', text)


class BookTextTest(TextTest):
    def test_there_and_back(self):
        self.assertEqual(format_book(BOOK), BOOK_TEXT)
        self.assertEqual(format_book(book=[]), '')
        self.assertEqual(parse_book(SCHEMA, BOOK_TEXT), BOOK)
        self.assertEqual(parse_book(schema=SCHEMA, text=''), [])
        six = [('town', YES)] * 6
        self.assertEqual(format_book(six), '\n'.join(['town yes'] * 6))
        self.assertEqual(parse_book(SCHEMA, format_book(six)), six)

    def test_what_is_returned_is_new(self):
        for text in (BOOK_TEXT, ''):
            book = parse_book(SCHEMA, text)
            book.append('x')
            self.assertEqual(format_book(parse_book(SCHEMA, text)), text)

    def test_first_wrong_line(self):
        for at in range(8):
            for wrong in ('', 'town', 'town  yes', 'town yes ', ' town yes', 'town\tyes', 'nosuch yes', 'yes', 'town flag open',
                          'yes yes', 'shop flag old', 'town yes yes', 'TOWN yes', 'flag yes', 'town not', 'table town'):
                lines = ['town yes'] * at + [wrong] + ['man flag no', 'shop yes', 'town yes']
                self.fails(at, parse_book, SCHEMA, '\n'.join(lines))
        self.fails(1, parse_book, SCHEMA, 'town yes\n')
        self.fails(0, parse_book, SCHEMA, '\n')
        self.fails(0, parse_book, SCHEMA, '\ntown yes')
        self.fails(3, parse_book, SCHEMA, BOOK_TEXT + '\n')
        self.fails(0, parse_book, SCHEMA, 'town\nyes')

    def test_too_many_rules(self):
        for many in (7, 8, 1000):
            self.fails(many, parse_book, SCHEMA, '\n'.join(['town yes'] * many))
        self.fails(7, parse_book, SCHEMA, '\n'.join(['town yes'] * 7 + ['town']))

    def test_any_object(self):
        for thing in THINGS:
            if thing not in ('', 'town yes'):
                self.fails(0, parse_book, SCHEMA, thing)

    def test_changed_texts(self):
        text = 'shop has at town id yes\ntown or not yes flag old'
        for other in changed(text):
            rules = []
            for line in other.split('\n') if other else []:
                table = line.partition(' ')[0]
                found = reference.condition_of(TABLES, table, line[len(table) + 1:]) if table in TABLES else None
                rules.append(None if found is None else (table, found))
            if None in rules:
                self.fails(rules.index(None), parse_book, SCHEMA, other)
            else:
                self.assertEqual(parse_book(SCHEMA, other), rules)


class SchemaTextTest(TextTest):
    def test_there_and_back(self):
        self.assertEqual(format_schema(SCHEMA), SCHEMA_TEXT)
        self.assertEqual(format_schema(schema=SCHEMA), SCHEMA_TEXT)
        self.assertTrue(parse_schema(SCHEMA_TEXT) == SCHEMA)
        self.assertTrue(parse_schema(text='table a\ncolumn z k\ncolumn b l\nflag y\nflag c') == Schema(
            {'a': ((('z', 'k'), ('b', 'l')), ('y', 'c'))}))
        names = Schema({'table': ((('column', 'table'),), ('table',)), 'column': ((('table', 'column'),), ())})
        self.assertTrue(parse_schema(format_schema(names)) == names)

    def test_first_line_of_a_wrong_form(self):
        lines = SCHEMA_TEXT.split('\n')
        for at in range(len(lines) + 1):
            for wrong in ('', 'table', 'table a b', 'column a', 'column a b c', 'flag', 'flag a b', 'town a', 'Table a', 'table  a',
                          ' table a', 'table a ', 'table\ta', 'flag yes', 'flag flag', 'table has', 'column or a', 'column a not',
                          'table A', 'table abcdefghi', 'flag a1', 'yes', 'column  a', 'table '):
                self.fails(at, parse_schema, '\n'.join(lines[:at] + [wrong] + lines[at:]))
                self.fails(at, parse_schema, '\n'.join(lines[:at] + [wrong] + lines[at:] + ['no']))
        self.fails(0, parse_schema, '')
        self.fails(0, parse_schema, '\n' + SCHEMA_TEXT)
        self.fails(len(lines), parse_schema, SCHEMA_TEXT + '\n')

    def test_lines_that_are_no_schema(self):
        for lines in (
                ['table a'], ['column a b'], ['flag a'], ['column a b', 'table a'], ['flag b', 'table a', 'column a b'],
                ['table a', 'flag b', 'column a b'], ['table a', 'column a b', 'column a c'],
                ['table a', 'column a b', 'flag a'], ['table a', 'column a b', 'flag c', 'flag c'],
                ['table a', 'column a b', 'flag c', 'flag d', 'flag e'], ['table a', 'flag b'],
                ['table a', 'column a b', 'column c b', 'column d b', 'column e b'],
                ['table b', 'column a b', 'table a', 'column a b'], ['table a', 'column a b', 'table a', 'column a b'],
                ['table a', 'table b', 'column a b'], ['table a', 'column a b', 'table b'],
                ['table a', 'column a b', 'flag c', 'column d b'], ['table a', 'table a', 'column a b'],
                [f'{word} {name}{more}' for name in 'abcde' for word, more in (('table', ''), ('column', ' k'))]):
            self.fails(len(lines), parse_schema, '\n'.join(lines))
        four = [f'{word} {name}{more}' for name in 'abcd' for word, more in (('table', ''), ('column', ' k'))]
        self.assertEqual(parse_schema('\n'.join(four)).tables, ['a', 'b', 'c', 'd'])

    def test_lines_in_another_order(self):
        dice = new_dice()
        lines = SCHEMA_TEXT.split('\n')
        for _ in range(300):
            other = dice.sample(lines, len(lines))
            try:
                self.assertEqual(format_schema(parse_schema('\n'.join(other))), '\n'.join(other))
            except ParseError as error:
                self.assertEqual(error.line, len(lines))

    def test_changed_texts(self):
        for other in changed('table ab\ncolumn z k\nflag old'):
            try:
                self.assertEqual(format_schema(parse_schema(other)), other)
            except ParseError as error:
                fine = [self.is_line(line) for line in other.split('\n')]
                self.assertEqual(error.line, (fine + [False]).index(False), repr(other))

    def is_line(self, line):
        word, *names = line.split(' ')
        many = {'table': 1, 'column': 2, 'flag': 1}.get(word)
        return len(names) == many and all([reference.is_name(name) for name in names])

    def test_any_object(self):
        for thing in THINGS:
            self.fails(1 if thing == 'table town' else 0, parse_schema, thing)

    def test_many_lines(self):
        for line in ('table a', 'column a b', 'flag a'):
            self.fails(50000, parse_schema, '\n'.join([line] * 50000))


if __name__ == '__main__':
    unittest.main()
