import itertools
import time
import unittest

from rulesmerged.copies import copy_rows, is_copy, unchanged
from rulesmerged.errors import InvalidBook, InvalidCopies, InvalidRows, InvalidWays
from rulesmerged.merges import are_ways, fewest_breaking, merged
from rulesmerged.schemas import Schema
from tests import reference, reference_histories
from tests.things import LINKED_ROWS, ROWS, TABLES, THINGS, check_errors, linked_condition, new_dice, random_book, random_copy
from tests.things import random_rows, random_tables, random_ways, turned_round, variations, wrong_ones

SCHEMA = Schema(TABLES)
WAYS = {'town': ('drop', ('turned', 'on')), 'shop': ('keep', ('off',)), 'man': ('keep', ())}
COPY = {
    'town': ([None, (True, False), (True, False)], []),
    'shop': ([(True,), (False,)], [((3, 4), (True,)), ((3, 4), (True,))]),
    'man': ([(), None], [((5,), ())]),
}
OTHER = {
    'town': ([(False, True), (False, True), None], [((8, 8), (False, False))]),
    'shop': ([None, (True,)], [((3, 4), (True,)), ((0, 0), (False,))]),
    'man': ([(), None], []),
}

# One table with one flag: a way and the states of a row of the base in copies lead to its state in the merge.
SMALL = Schema({'town': ((('id', 'town'),), ('old',))})
ON, OFF = (True,), (False,)


def state(drop, word, base, *states):
    copies = [{'town': ([each], [])} for each in states]
    return merged(SMALL, {'town': (drop, (word,))}, {'town': [((1,), base)]}, copies)['town'][0][0]


class AreWaysTest(unittest.TestCase):
    def test_ways(self):
        for thing in (WAYS, turned_round(WAYS), {**WAYS, 'town': ('keep', ('off', 'off'))}):
            self.assertIs(are_ways(SCHEMA, thing), True)
        self.assertIs(are_ways(schema=SCHEMA, thing=WAYS), True)

    def test_wrong_ways(self):
        for own in (('put', ('on', 'on')), ('drop', ('on',)), ('drop', ('on', 'on', 'on')), ('drop', ()), ('drop', ('on', 'yes')),
                    ('drop', ['on', 'on']), ['drop', ('on', 'on')], ('drop', 'on'), ('drop', 'on', 'on'), ('drop',), (), None,
                    ('Drop', ('on', 'on')), (True, ('on', 'on')), ('drop', (True, False)), ('drop', ('on', None)), 'drop',
                    (['drop'], ('on', 'on')), ('drop', ('on', ['on'])), ('on', ('on', 'on')), ('keep', ('keep', 'keep'))):
            self.assertIs(are_ways(SCHEMA, {**WAYS, 'town': own}), False, own)
        few = {table: WAYS[table] for table in ('town', 'shop')}
        for thing in (few, {**WAYS, 'more': ('drop', ())}, {**few, 'men': WAYS['man']}, list(WAYS.items()), tuple(WAYS)):
            self.assertIs(are_ways(SCHEMA, thing), False, thing)

    def test_any_object(self):
        told = []
        for thing in THINGS + list(variations(WAYS)):
            told.append(are_ways(SCHEMA, thing))
            self.assertIs(told[-1], reference_histories.are_ways(TABLES, thing), repr(thing)[:60])
        self.assertGreater(told.count(True), 5)
        self.assertGreater(told.count(False), 200)


class MergedTest(unittest.TestCase):
    def test_no_copies_and_one(self):
        for ways in (WAYS, {'town': ('keep', ('off', 'turned')), 'shop': ('drop', ('on',)), 'man': ('drop', ())}):
            self.assertEqual(merged(SCHEMA, ways, ROWS, []), unchanged(SCHEMA, ROWS))
            self.assertEqual(merged(SCHEMA, ways, ROWS, [COPY]), COPY)
            self.assertEqual(merged(schema=SCHEMA, ways=ways, base=ROWS, copies=[OTHER]), OTHER)

    def test_two_copies(self):
        self.assertEqual(merged(SCHEMA, WAYS, ROWS, [COPY, OTHER]), {
            'man': ([(), None], [((5,), ())]),
            'shop': ([(True,), (False,)], [((3, 4), (True,)), ((3, 4), (True,)), ((3, 4), (True,)), ((0, 0), (False,))]),
            'town': ([None, (True, True), None], [((8, 8), (False, False))]),
        })
        self.assertEqual(merged(SCHEMA, WAYS, ROWS, [OTHER, COPY])['shop'][1],
                         [((3, 4), (True,)), ((0, 0), (False,)), ((3, 4), (True,)), ((3, 4), (True,))])

    def test_drops(self):
        for word in ('turned', 'on', 'off'):
            self.assertEqual([state('drop', word, ON, *states) for states in ((ON, ON), (None, ON), (ON, None), (None, None))],
                             [ON, None, None, None])
            self.assertEqual([state('keep', word, ON, *states) for states in ((ON, ON), (None, ON), (ON, None), (None, None))],
                             [ON, ON, ON, None])
            self.assertEqual(state('keep', word, OFF, None, None, None), None)
            self.assertEqual(state('drop', word, OFF, OFF, OFF, None), None)

    def test_flags_turned_by_none_one_and_all(self):
        for drop in ('drop', 'keep'):
            told = {word: [state(drop, word, base, *states) for base in (ON, OFF)
                           for states in ((OFF, OFF, OFF), (OFF, ON, OFF), (ON, OFF, ON), (ON, ON, ON))]
                    for word in ('turned', 'on', 'off')}
            self.assertEqual(told, {
                'turned': [OFF, OFF, OFF, ON, OFF, ON, ON, ON],
                'on': [OFF, ON, ON, ON, OFF, ON, ON, ON],
                'off': [OFF, OFF, OFF, ON, OFF, OFF, OFF, ON],
            })

    def test_just_copies_in_which_the_row_is_there_count(self):
        self.assertEqual([state('keep', 'off', OFF, None, ON), state('keep', 'off', OFF, ON, None, ON)], [ON, ON])
        self.assertEqual([state('keep', 'on', ON, None, OFF), state('keep', 'on', ON, OFF, None, OFF)], [OFF, OFF])
        self.assertEqual([state('keep', 'turned', OFF, None, ON), state('keep', 'turned', ON, None, ON)], [ON, ON])
        self.assertEqual([state('keep', 'turned', ON, OFF, None), state('keep', 'off', ON, ON, None, OFF)], [OFF, OFF])

    def test_random_merges(self):
        dice = new_dice()
        for _ in range(300):
            tables = random_tables(dice)
            schema, ways, base = Schema(tables), random_ways(dice, tables), random_rows(dice, tables, 4, 2)
            copies = [random_copy(dice, tables, base, 2, 2) for _ in range(dice.randrange(5))]
            merge = merged(schema, turned_round(ways), turned_round(base), turned_round(copies))
            self.assertEqual(merge, reference_histories.merged(tables, ways, base, copies))
            self.assertEqual(list(merge), sorted(tables))
            self.assertIs(is_copy(schema, base, merge), True)
            self.assertTrue(reference.is_copy(tables, base, merge))

    def test_merging_in_groups_and_in_another_order(self):
        dice = new_dice()
        for _ in range(200):
            tables = random_tables(dice)
            schema, ways, base = Schema(tables), random_ways(dice, tables), random_rows(dice, tables, 4, 2)
            copies = [random_copy(dice, tables, base, 2, 2) for _ in range(4)]
            merge = merged(schema, ways, base, copies)
            for at in range(1, 4):
                groups = [merged(schema, ways, base, copies[:at]), merged(schema, ways, base, copies[at:])]
                self.assertEqual(merged(schema, ways, base, groups), merge)
            dice.shuffle(copies)
            other = merged(schema, ways, base, copies)
            for table in tables:
                self.assertEqual(other[table][0], merge[table][0])
                self.assertEqual(sorted(other[table][1]), sorted(merge[table][1]))

    def test_errors_in_their_order_for_any_objects(self):
        wrong = wrong_ones([COPY], lambda each: isinstance(each, list) and all(
            reference.is_copy(TABLES, ROWS, copy) for copy in each))
        check_errors(self, merged, [SCHEMA, WAYS, ROWS, [COPY]], [
            (1, InvalidWays, wrong_ones(WAYS, lambda each: reference_histories.are_ways(TABLES, each))),
            (2, InvalidRows, wrong_ones(ROWS, lambda each: reference.are_rows(TABLES, each))),
            (3, InvalidCopies, wrong[::3] + [COPY, (COPY,), [COPY, None], [unchanged(SCHEMA, ROWS), {}], {0: COPY}]),
        ], new_dice())

    def test_copies_of_another_base(self):
        with self.assertRaises(InvalidCopies):
            merged(SCHEMA, WAYS, {**ROWS, 'man': []}, [COPY])


class FewestBreakingTest(unittest.TestCase):
    BASE = {'town': [((1,), OFF)] * 3}
    BUSY = [('town', ('not', ('has', 'id', 'town', 'id', ('flag', 'old'))))]

    def copies(self, *lists):
        return [{'town': (list(states), [])} for states in lists]

    def test_no_copy_is_needed(self):
        base = {'town': [((1,), ON)]}
        for copies in ([], [{'town': ([ON], [])}], [{'town': ([OFF], [])}] * 8):
            self.assertEqual(fewest_breaking(SMALL, self.BUSY, {'town': ('drop', ('turned',))}, base, copies), [])

    def test_none(self):
        ways = {'town': ('drop', ('turned',))}
        for copies in ([], self.copies([OFF, OFF, OFF]), self.copies([OFF, OFF, OFF], [None, OFF, OFF])):
            self.assertIsNone(fewest_breaking(SMALL, self.BUSY, ways, self.BASE, copies))
        self.assertIsNone(fewest_breaking(schema=SMALL, book=[], ways=ways, base=self.BASE, copies=[]))

    def test_first_of_the_shortest(self):
        copies = self.copies([OFF, OFF, OFF], [OFF, ON, OFF], [ON, ON, OFF])
        self.assertEqual(fewest_breaking(SMALL, self.BUSY, {'town': ('drop', ('on',))}, self.BASE, copies), [1])
        both = [('town', ('not', ('and', ('flag', 'busy'), ('flag', 'shut'))))]
        schema = Schema({'town': ((('id', 'town'),), ('busy', 'shut'))})
        base = {'town': [((1,), (False, False))]}
        copies = [{'town': ([flags], [])} for flags in ((False, False), (True, False), (True, False), (False, True), (False, True))]
        self.assertEqual(fewest_breaking(schema, both, {'town': ('drop', ('on', 'on'))}, base, copies), [1, 3])
        self.assertEqual(fewest_breaking(schema, both, {'town': ('drop', ('turned', 'on'))}, base, copies[2:]), [0, 1])
        self.assertIsNone(fewest_breaking(schema, both, {'town': ('drop', ('off', 'on'))}, base, copies))

    def test_three_break_where_no_two_do(self):
        # Each copy drops another one of three rows, and each row needs some row beside it.
        condition = ('has', 'id', 'town', 'id', ('flag', 'old'))
        base = {'town': [((1,), ON), ((1,), ON), ((1,), ON), ((1,), OFF)]}
        copies = self.copies([None, ON, ON, OFF], [ON, None, ON, OFF], [ON, ON, None, OFF], [ON, ON, ON, OFF])
        ways = {'town': ('drop', ('turned',))}
        self.assertEqual(fewest_breaking(SMALL, [('town', condition)], ways, base, copies), [0, 1, 2])
        self.assertEqual(fewest_breaking(SMALL, [('town', condition)], ways, base, copies[::-1]), [1, 2, 3])
        self.assertIsNone(fewest_breaking(SMALL, [('town', condition)], {'town': ('keep', ('turned',))}, base, copies))

    def test_all_keep_where_some_do_not(self):
        # The second copy drops what the first one turned.
        copies = self.copies([ON, OFF, OFF], [None, OFF, OFF])
        ways = {'town': ('drop', ('turned',))}
        self.assertEqual(fewest_breaking(SMALL, self.BUSY, ways, self.BASE, copies), [0])
        self.assertIsNone(fewest_breaking(SMALL, self.BUSY, ways, self.BASE, [merged(SMALL, ways, self.BASE, copies)]))

    def test_random_copies(self):
        dice, told = new_dice(), []
        while len(told) < 1500:
            tables = random_tables(dice)
            schema, ways, base = Schema(tables), random_ways(dice, tables), random_rows(dice, tables, 3, 1)
            book = random_book(dice, tables, dice.choice([0, 1, 1, 2]))
            if not reference_histories.keeps(tables, book, base) and dice.random() < 0.9:
                continue
            copies = [random_copy(dice, tables, base, 1, 1) for _ in range(dice.randrange(6))]
            kept = [copy for copy in copies if reference_histories.fewest_breaking(tables, book, ways, base, [copy]) is None]
            copies = kept if dice.random() < 0.7 else copies
            told.append(fewest_breaking(schema, book, turned_round(ways), turned_round(base), turned_round(copies)))
            self.assertEqual(told[-1], reference_histories.fewest_breaking(tables, book, ways, base, copies))
        sizes = [None if each is None else len(each) for each in told]
        self.assertGreater(min(sizes.count(size) for size in (None, 0, 1, 2)), 5)

    def test_eight_copies_in_good_time(self):
        # Each row is dropped by three of the copies, so that some row is left as long as three are left out.
        states = [[(True, False)] * 1500 for _ in range(8)]
        for index, chosen in zip(range(1500), itertools.cycle(itertools.combinations(range(8), 3))):
            for at in chosen:
                states[at][index] = None
        copies = [{'town': (own, []), 'shop': ([(False,)] * 1500, []), 'man': ([], [])} for own in states]
        ways = {'town': ('keep', ('on', 'turned')), 'shop': ('keep', ('off',)), 'man': ('drop', ())}
        book = [('shop', ('not', linked_condition()))] * 5 + [('shop', ('has', 'at', 'town', 'of', ('yes',)))]
        start = time.process_time()
        self.assertIsNone(fewest_breaking(SCHEMA, book, ways, LINKED_ROWS, copies))
        ways['town'] = ('drop', ('on', 'turned'))
        found = fewest_breaking(SCHEMA, book, ways, LINKED_ROWS, copies)
        self.assertLess(time.process_time() - start, 20)
        self.assertEqual(found, [0, 1, 2, 3, 4, 5])
        merge = merged(SCHEMA, ways, LINKED_ROWS, [copies[at] for at in found])
        self.assertEqual(copy_rows(SCHEMA, LINKED_ROWS, merge)['town'], [])

    def test_errors_in_their_order_for_any_objects(self):
        book = [('town', ('flag', 'old')), ('man', ('has', 'id', 'shop', 'by', ('not', ('yes',))))]
        check_errors(self, fewest_breaking, [SCHEMA, book, WAYS, ROWS, [COPY, OTHER]], [
            (1, InvalidBook, wrong_ones(book, lambda each: reference.is_book(TABLES, each))),
            (2, InvalidWays, wrong_ones(WAYS, lambda each: reference_histories.are_ways(TABLES, each))),
            (3, InvalidRows, wrong_ones(ROWS, lambda each: reference.are_rows(TABLES, each))[::3]),
            (4, InvalidCopies, [COPY, (COPY,), [COPY, None], [OTHER, COPY, {}], None, True, [[]], {0: COPY}, 'town']),
        ], new_dice())


if __name__ == '__main__':
    unittest.main()
