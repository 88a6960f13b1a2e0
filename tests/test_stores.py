import copy
import inspect
import unittest

from rulesmerged import errors
from rulesmerged.errors import (BookBroken, DuplicateName, InvalidBook, InvalidKinds, InvalidName, InvalidNames, InvalidRows, InvalidWays,
                                MergeBroken, NotLet, NothingToUndo, UnknownCopy, UnknownFlag, UnknownRow, UnknownTable)
from rulesmerged.free import is_free
from rulesmerged.kept import breach, kept_rules
from rulesmerged.schemas import Schema
from rulesmerged.stores import Store
from tests import edges, reference, reference_histories
from tests.reference_stores import PlainStore
from tests.test_arguments import lists_and_dicts
from tests.test_free import FLAG_SCHEMA, NOT_BOTH, TURNED
from tests.test_kept import BOOK, DROP, SCHEMA, TABLES
from tests.things import REPLACEMENTS, THINGS, check_errors, new_dice, random_terms, turned_round, wrong_ones

OLD_TABLES = {'shop': ((('at', 'town'), ('by', 'man')), ('open',)), 'town': ((('id', 'town'),), ('old', 'shut'))}
OLD_SCHEMA = Schema(OLD_TABLES)
OLD_WAYS = {'shop': ('drop', ('turned',)), 'town': ('keep', ('on', 'off'))}
OPEN = [('shop', ('or', ('not', ('flag', 'open')), ('has', 'at', 'town', 'id', ('not', ('flag', 'shut')))))]
F, T = False, True


def state_of(store):
    """All that can be seen of a store."""
    rows = {name: (store.rows(name), store.done_in(name)) for name in store.names}
    return copy.deepcopy((store.base, store.names, rows, len(store)))


def tell(store, word, *arguments):
    try:
        return 'told', getattr(store, word)(*arguments)
    except errors.ApartError as error:
        return 'raises', type(error).__name__


def filled_store(more=None):
    """A store with two towns and a shop in the base, and a copy 'a'; all kinds of changes are let, or just some beside put."""
    puts = [('put', 'shop'), ('put', 'town')]
    store = Store(OLD_SCHEMA, OPEN, OLD_WAYS, OLD_SCHEMA.changes if more is None else puts + more)
    store.begin('a')
    store.put('a', 'town', (1,), (F, F))
    store.put('a', 'town', (2,), (T, T))
    store.put('a', 'shop', (1, 7), (T,))
    store.merge(['a'])
    store.begin('a')
    return store


class StoreTest(unittest.TestCase):
    def test_a_new_store(self):
        store = Store(schema=OLD_SCHEMA, book=OPEN, ways=OLD_WAYS, kinds=[])
        self.assertEqual([store.base, store.names, len(store)], [{'shop': [], 'town': []}, [], 0])
        self.assertEqual(list(store.base), ['shop', 'town'])
        with self.assertRaises(NothingToUndo):
            store.undo()

    def test_names_of_parameters(self):
        told = {'begin': ['name'], 'put': ['name', 'table', 'values', 'flags'], 'drop': ['name', 'table', 'index'],
                'turn': ['name', 'table', 'index', 'flag'], 'rows': ['name'], 'done_in': ['name'], 'merge': ['names'],
                'is_safe': [], 'undo': [], 'copy': []}
        for word, parameters in told.items():
            self.assertIn(word, vars(Store))
            self.assertEqual(list(inspect.signature(getattr(Store, word)).parameters), ['self'] + parameters)
        store = Store(schema=SCHEMA, book=BOOK, ways=DROP, kinds=SCHEMA.changes)
        self.assertIsNone(store.begin(name='a'))
        self.assertEqual(store.put(name='a', table='town', values=(1,), flags=()), 0)
        self.assertIsNone(store.drop(name='a', table='town', index=0))
        self.assertEqual([store.rows(name='a'), store.done_in(name='a')], [{'shop': [], 'town': []}, []])
        self.assertIsNone(store.merge(names=['a']))
        turned = filled_store()
        self.assertIsNone(turned.turn(name='a', table='shop', index=0, flag='open'))
        for name in ('base', 'names'):
            self.assertIsInstance(vars(Store)[name], property)

    def test_put_tells_the_index_among_the_rows_of_the_copy(self):
        store = filled_store()
        self.assertEqual(store.put('a', 'town', (3,), (F, T)), 2)
        self.assertEqual(store.put('a', 'town', (3,), (F, T)), 3)
        store.drop('a', 'town', 0)
        self.assertEqual(store.put('a', 'town', (4,), (T, F)), 3)
        self.assertEqual(store.rows('a')['town'], [((2,), (T, T)), ((3,), (F, T)), ((3,), (F, T)), ((4,), (T, F))])
        self.assertEqual(store.done_in('a'), [('drop', 'town'), ('put', 'town')])
        self.assertEqual(store.base['town'], [((1,), (F, F)), ((2,), (T, T))])

    def test_rows_that_the_copy_put_are_taken_out_and_turned_there(self):
        store = Store(OLD_SCHEMA, OPEN, OLD_WAYS, [('put', 'town')])
        store.begin('a')
        index = store.put('a', 'town', (3,), (F, T))
        store.turn('a', 'town', index, 'old')
        store.turn('a', 'town', index, 'shut')
        self.assertEqual([store.rows('a')['town'], store.done_in('a')], [[((3,), (T, F))], [('put', 'town')]])
        store.put('a', 'town', (4,), (F, F))
        store.drop('a', 'town', index)
        self.assertEqual([store.rows('a')['town'], store.done_in('a')], [[((4,), (F, F))], [('put', 'town')]])
        store.drop('a', 'town', 0)
        self.assertEqual([store.rows('a')['town'], store.done_in('a'), store.base['town']], [[], [], []])

    def test_what_is_not_let(self):
        store = filled_store([('on', 'town', 'old'), ('off', 'town', 'shut')])
        before = state_of(store)
        for call, arguments in ((store.drop, ('a', 'town', 0)), (store.drop, ('a', 'shop', 0)), (store.turn, ('a', 'town', 0, 'shut')),
                                (store.turn, ('a', 'town', 1, 'old')), (store.turn, ('a', 'shop', 0, 'open'))):
            with self.assertRaises(NotLet):
                call(*arguments)
            self.assertEqual(state_of(store), before)
        store.turn('a', 'town', 0, 'old')
        store.turn('a', 'town', 1, 'shut')
        self.assertEqual(store.done_in('a'), [('off', 'town', 'shut'), ('on', 'town', 'old')])
        # A flag that is turned back is no change.
        store.turn('a', 'town', 0, 'old')
        store.turn('a', 'town', 1, 'shut')
        self.assertEqual([store.done_in('a'), store.rows('a')], [[], store.base])
        store = Store(OLD_SCHEMA, OPEN, OLD_WAYS, [])
        store.begin('a')
        with self.assertRaises(NotLet):
            store.put('a', 'town', (1,), (F, F))

    def test_merge(self):
        store = filled_store()
        for name in ('b', 'c', 'idle'):
            store.begin(name)
        store.put('b', 'town', (5,), (F, F))
        store.turn('a', 'town', 0, 'old')
        store.put('a', 'town', (6,), (F, F))
        store.drop('c', 'shop', 0)
        self.assertEqual(store.names, ['a', 'b', 'c', 'idle'])
        store.merge(['b', 'idle', 'a'])
        self.assertEqual(store.base, {'shop': [((1, 7), (T,))], 'town': [((1,), (T, F)), ((2,), (T, T)), ((5,), (F, F)), ((6,), (F, F))]})
        self.assertEqual([store.names, list(store.base)], [[], ['shop', 'town']])
        with self.assertRaises(UnknownCopy):
            store.rows('c')

    def test_merges_of_no_copies_and_of_one_that_does_nothing(self):
        for names in ([], ['a']):
            store = filled_store()
            before, many = store.base, len(store)
            store.begin('b')
            store.drop('b', 'shop', 0)
            self.assertIsNone(store.merge(names))
            self.assertEqual([store.base, store.names, len(store)], [before, [], many + 3])
        store = Store(SCHEMA, BOOK, DROP, [])
        self.assertIsNone(store.merge([]))
        self.assertEqual([store.base, len(store)], [{'shop': [], 'town': []}, 1])

    def test_copies_and_merges_that_break_the_book(self):
        store = filled_store()
        store.begin('b')
        store.turn('a', 'town', 0, 'shut')
        before = state_of(store)
        for names in (['a'], ['b', 'a'], ['a', 'b']):
            with self.assertRaises(BookBroken):
                store.merge(names)
            self.assertEqual(state_of(store), before)
        # Without its shop a town may be shut; by "off" it stays open unless all copies shut it.
        store.drop('a', 'shop', 0)
        store.merge(['a', 'b'])
        self.assertEqual(store.base, {'shop': [], 'town': [((1,), (F, F)), ((2,), (T, T))]})
        store = Store(SCHEMA, BOOK, DROP, SCHEMA.changes)
        store.begin('a')
        store.put('a', 'town', (1,), ())
        store.merge(['a'])
        store.begin('a')
        store.begin('b')
        store.put('a', 'shop', (1,), ())
        store.drop('b', 'town', 0)
        before = state_of(store)
        with self.assertRaises(MergeBroken):
            store.merge(['b', 'a'])
        self.assertEqual(state_of(store), before)
        store.merge(['a'])
        self.assertEqual(store.base, {'shop': [((1,), ())], 'town': [((1,), ())]})

    def test_is_safe(self):
        self.assertIs(Store(SCHEMA, BOOK, DROP, SCHEMA.changes).is_safe(), False)
        self.assertIs(Store(SCHEMA, BOOK, DROP, [('put', 'shop'), ('put', 'town'), ('drop', 'shop')]).is_safe(), True)
        self.assertIs(Store(SCHEMA, BOOK, {**DROP, 'town': ('keep', ())}, SCHEMA.changes).is_safe(), True)
        self.assertIs(Store(FLAG_SCHEMA, [NOT_BOTH], TURNED, [('on', 'town', 'busy'), ('on', 'town', 'shut')]).is_safe(), False)
        dice = new_dice()
        for many in [0, 1, 2] * 30:
            tables, book, ways, (kinds, _) = random_terms(dice, many)
            schema = Schema(tables)
            self.assertIs(Store(schema, book, turned_round(ways), kinds).is_safe(), is_free(schema, book, ways, kinds))

    def test_undo_back_to_the_beginning(self):
        store, states = Store(OLD_SCHEMA, OPEN, OLD_WAYS, OLD_SCHEMA.changes), []
        for word, *arguments in (
                ('begin', 'a'), ('put', 'a', 'town', (1,), (F, F)), ('put', 'a', 'shop', (1, 1), (T,)), ('turn', 'a', 'town', 0, 'old'),
                ('begin', 'b'), ('merge', ['a', 'b']), ('merge', []), ('begin', 'b'), ('begin', 'a'), ('turn', 'b', 'town', 0, 'shut'),
                ('drop', 'b', 'shop', 0), ('turn', 'b', 'town', 0, 'shut'), ('turn', 'b', 'town', 0, 'old'), ('merge', ['b'])):
            states.append(state_of(store))
            getattr(store, word)(*arguments)
            self.assertEqual(len(store), len(states))
        for state in reversed(states):
            self.assertIsNone(store.undo())
            self.assertEqual(state_of(store), state)
        with self.assertRaises(NothingToUndo):
            store.undo()
        self.assertEqual(len(store), 0)

    def test_copies_go_apart(self):
        store = filled_store()
        other, before = store.copy(), state_of(store)
        self.assertIs(type(other), Store)
        self.assertEqual(state_of(other), before)
        other.drop('a', 'town', 0)
        other.begin('b')
        self.assertEqual(state_of(store), before)
        after = state_of(other)
        store.undo()
        store.undo()
        store.turn('a', 'town', 0, 'old')
        self.assertEqual(state_of(other), after)
        for _ in range(after[-1]):
            other.undo()
        self.assertEqual([other.base, other.names, len(other)], [{'shop': [], 'town': []}, [], 0])
        again = store.copy().copy()
        self.assertEqual(state_of(again), state_of(store))
        self.assertIs(again.is_safe(), store.is_safe())

    def test_what_is_told_is_new_and_what_is_passed_is_copied(self):
        book, ways, kinds = list(OPEN), dict(OLD_WAYS), list(OLD_SCHEMA.changes)
        store = Store(OLD_SCHEMA, book, ways, kinds)
        book.append(('town', edges.NEVER))
        ways.clear()
        kinds.clear()
        store.begin('a')
        store.put('a', 'town', (1,), (F, F))
        store.merge(['a'])
        store.begin('a')
        before = state_of(store)
        told = [call() for call in (lambda: store.base, lambda: store.names, lambda: store.rows('a'), lambda: store.done_in('a')) for _ in range(2)]
        found = lists_and_dicts(told)
        self.assertEqual(len({id(each) for each in found}), len(found))
        for each in found:
            each.clear()
        self.assertEqual(state_of(store), before)
        other = store.copy()
        for rows in other.rows('a').values():
            rows.append(None)
        self.assertEqual(state_of(store), before)


class PlainTest(unittest.TestCase):
    def random_call(self, dice, store, tables):
        """A call that is often right: names of copies there are, tables, values and flags that fit, and perhaps no row."""
        many = 3 if len(store.names) < 2 else 1
        word = dice.choice(['begin'] * many * 2 + ['put'] * 6 + ['drop'] * 4 + ['turn'] * 4 + ['merge'] * 2 + ['undo', 'rows', 'done_in'])
        name = dice.choice(store.names * 6 + ['a', 'b', 'c', 'd'])
        table = dice.choice(sorted(tables))
        columns, flags = tables[table]
        if word == 'put':
            values = tuple([dice.randrange(2) for _ in columns])
            return word, name, table, values, tuple([dice.random() < 0.5 for _ in flags])
        if word == 'drop':
            return word, name, table, dice.randrange(4)
        if word == 'turn':
            return word, name, table, dice.randrange(4), dice.choice(list(flags) or ['old'])
        if word == 'merge':
            return word, dice.sample(store.names, min(dice.choice([0, 1, 2, 2, 3, 3]), len(store.names)))
        return (word,) if word == 'undo' else (word, name)

    def test_random_calls(self):
        dice, seen = new_dice(), {}
        for many in [0, 0, 1, 2] * 60:
            tables, book, ways, (kinds, _) = random_terms(dice, many)
            puts = [('put', table) for table in tables if ('put', table) not in kinds and dice.random() < 0.8]
            kinds = kinds + puts if dice.random() < 0.7 else reference.changes(tables)
            store, plain = Store(Schema(tables), book, ways, kinds), PlainStore(tables, book, ways, kinds)
            for _ in range(80):
                word, *arguments = self.random_call(dice, store, tables)
                if dice.random() < 0.05 and arguments:
                    arguments[dice.randrange(len(arguments))] = dice.choice(THINGS)
                before = state_of(store)
                told = tell(store, word, *copy.deepcopy(arguments))
                self.assertEqual(told, plain.call(word, *arguments), (word, arguments))
                seen[word, told[1] if told[0] == 'raises' else 'told'] = seen.get((word, told[1] if told[0] == 'raises' else 'told'), 0) + 1
                self.assertEqual([store.base, store.names, len(store)], [plain.base, sorted(plain.copies), len(plain.earlier)])
                for name in store.names:
                    self.assertEqual([store.rows(name), store.done_in(name)], [plain.rows_of(name), plain.kinds_done(name)])
                if told[0] == 'raises':
                    self.assertEqual(state_of(store), before)
                if dice.random() < 0.02:
                    store, plain = store.copy(), plain.copy()
        for word in ('begin', 'put', 'drop', 'turn', 'merge', 'undo', 'rows', 'done_in'):
            self.assertGreater(seen[word, 'told'], 30)
        for word, error in (('put', 'NotLet'), ('drop', 'NotLet'), ('turn', 'NotLet'), ('merge', 'BookBroken'), ('merge', 'InvalidNames'), ('turn', 'UnknownFlag'), ('drop', 'UnknownRow'), ('begin', 'DuplicateName')):
            self.assertGreater(seen[word, error], 5, (word, error))

    def begin_as(self, store, tables, name, base, table_copies):
        """A copy of the base of a store that is changed, call by call, to what a copy of a case is."""
        store.begin(name)
        for table, (states, put) in table_copies.items():
            for index in reversed(range(len(states))):
                for flag, own, state in zip(tables[table][1], base[table][index][1], states[index] or ()):
                    if own != state:
                        store.turn(name, table, index, flag)
                if states[index] is None:
                    store.drop(name, table, index)
            for values, flags in put:
                store.put(name, table, values, flags)

    def test_merges_of_cases_that_break_the_book(self):
        dice, many_broken = new_dice(), 0
        while many_broken < 60:
            tables, book, ways, (kinds, _) = random_terms(dice, dice.choice([0, 1, 2]))
            kinds = sorted(set(kinds) | {('put', table) for table in tables})
            schema = Schema(tables)
            broken = [rule for rule in range(len(book)) if rule not in kept_rules(schema, book, ways, (kinds, kinds))]
            store = Store(schema, book, ways, kinds)
            self.assertIs(store.is_safe(), broken == [])
            for rule in broken[:1]:
                base, copies, _ = breach(schema, book, ways, (kinds, kinds), rule)
                self.begin_as(store, tables, 'base', {table: [] for table in tables}, {table: ([], base[table]) for table in tables})
                store.merge(['base'])
                for name, one in zip('ab', copies):
                    self.begin_as(store, tables, name, base, one)
                    self.assertEqual(store.rows(name), reference_histories.copy_rows(tables, base, one))
                before = state_of(store)
                for names in (['a', 'b'], ['b', 'a']):
                    with self.assertRaises(MergeBroken):
                        store.merge(names)
                self.assertEqual(state_of(store), before)
                store.copy().merge(['a'])
                store.merge(['b'])
                self.assertEqual(store.base, before[2]['b'][0])
                many_broken += 1

    def test_merges_of_safe_stores_never_break_the_book(self):
        dice, many_merges, many_broken = new_dice(), 0, 0
        while many_merges < 400:
            tables, book, ways, (kinds, _) = random_terms(dice, dice.choice([0, 1, 2]))
            store = Store(Schema(tables), book, ways, kinds)
            if not kinds or not store.is_safe():
                continue
            self.assertTrue(is_free(Schema(tables), book, ways, kinds))
            for _ in range(40):
                word, *arguments = self.random_call(dice, store, tables)
                told = tell(store, word, *arguments)
                self.assertNotEqual(told, ('raises', 'MergeBroken'))
                many_merges += word == 'merge' and told == ('told', None) and arguments != [[]]
                many_broken += told == ('raises', 'BookBroken')
        self.assertGreater(many_broken, 20)


class ErrorsTest(unittest.TestCase):
    def check_calls(self, word, arguments, faults):
        """Each error, alone and beside later ones, leaves the store as it is."""
        store, dice = filled_store(), new_dice()
        store.begin('b')
        store.turn('b', 'town', 0, 'old')
        before = state_of(store)
        check_errors(self, getattr(store, word), arguments, faults, dice)
        self.assertEqual(state_of(store), before)

    def names(self):
        return [each for each in THINGS if not reference.is_name(each)]

    def copies(self):
        return [each for each in THINGS if not isinstance(each, str) or each not in ('a', 'b')] + [['a'], ('a',), 'c', 'a ']

    def tables(self):
        return [each for each in THINGS if not isinstance(each, str) or each not in OLD_TABLES] + [['town'], 'man']

    def rows(self, most):
        return [each for each in THINGS if type(each) is not int or not 0 <= each < most] + [most, '0', (0,), None, T, F]

    def test_of_the_constructor(self):
        faults = [
            (1, InvalidBook, wrong_ones(BOOK, lambda each: reference.is_book(TABLES, each))),
            (2, InvalidWays, wrong_ones(DROP, lambda each: reference_histories.are_ways(TABLES, each))),
            (3, InvalidKinds, wrong_ones([('put', 'town'), ('drop', 'shop')], lambda each: reference.are_kinds(TABLES, each))),
        ]
        check_errors(self, Store, [SCHEMA, BOOK, DROP, [('put', 'town')]], faults, new_dice())

    def test_of_begin(self):
        self.check_calls('begin', ['c'], [(0, InvalidName, self.names())])
        self.check_calls('begin', ['c'], [(0, DuplicateName, ['a', 'b'])])

    def test_of_put(self):
        values = wrong_ones((1, 7), lambda each: reference.is_tuple(each, reference.is_value, reference.is_value))
        flags = wrong_ones((T,), lambda each: reference.is_state(OLD_TABLES, 'shop', each))
        faults = [(0, UnknownCopy, self.copies()), (1, UnknownTable, self.tables()), (2, InvalidRows, values), (3, InvalidRows, flags)]
        self.check_calls('put', ['a', 'shop', (1, 7), (T,)], faults)

    def test_of_drop_and_turn(self):
        faults = [(0, UnknownCopy, self.copies()), (1, UnknownTable, self.tables()), (2, UnknownRow, self.rows(2))]
        flags = [each for each in THINGS if not isinstance(each, str) or each not in ('old', 'shut')] + ['open', 'id', ('old',)]
        self.check_calls('drop', ['b', 'town', 0], faults)
        self.check_calls('turn', ['b', 'town', 0, 'old'], faults + [(3, UnknownFlag, flags)])

    def test_not_let_comes_last(self):
        store = Store(OLD_SCHEMA, OPEN, OLD_WAYS, [('put', 'town')])
        store.begin('a')
        store.put('a', 'town', (1,), (F, F))
        store.merge(['a'])
        store.begin('a')
        faults = [(0, UnknownCopy, self.copies()), (1, UnknownTable, self.tables())]
        check_errors(self, store.put, ['a', 'shop', (1, 1), (T,)], faults + [(2, InvalidRows, REPLACEMENTS), (2, NotLet, [(1, 1)])], new_dice())
        faults.append((2, UnknownRow, self.rows(1)))
        check_errors(self, store.drop, ['a', 'town', 0], faults + [(2, NotLet, [0])], new_dice())
        check_errors(self, store.turn, ['a', 'town', 0, 'old'], faults + [(3, UnknownFlag, REPLACEMENTS), (3, NotLet, ['old'])], new_dice())
        self.assertEqual([store.rows('a'), store.done_in('a'), len(store)], [store.base, [], 4])

    def test_of_rows_and_done_in(self):
        self.check_calls('rows', ['a'], [(0, UnknownCopy, self.copies())])
        self.check_calls('done_in', ['a'], [(0, UnknownCopy, self.copies())])

    def test_of_merge(self):
        names = wrong_ones(['a', 'b'], lambda each: type(each) is list and all(type(name) is str and name in 'ab' and name for name in each)
                           and len(set(each)) == len(each))
        self.check_calls('merge', [['a']], [(0, InvalidNames, names + [['a', 'a'], ('a',), {'a': 1}, 'a', ['c'], ['a', 'c'], [['a']], None])])


if __name__ == '__main__':
    unittest.main()
