import time
import unittest

from rulesmerged.conditions import depth, has_parts, is_condition, meets
from rulesmerged.errors import InvalidCondition, InvalidRows, UnknownRow, UnknownTable
from rulesmerged.schemas import Schema
from tests import reference
from tests.things import LINKED_ROWS, ROWS, TABLES, THINGS, linked_condition, new_dice, random_condition, random_rows
from tests.things import turned_round, variations

SCHEMA = Schema(TABLES)
YES = ('yes',)
NO = ('not', YES)
OLD = ('flag', 'old')
OPEN = ('flag', 'open')


class IsConditionTest(unittest.TestCase):
    def test_each_form(self):
        for condition in (YES, OLD, ('flag', 'shut'), ('has', 'id', 'shop', 'at', OPEN), ('has', 'of', 'town', 'id', OLD),
                          ('has', 'id', 'town', 'id', YES), ('not', OLD), ('and', YES, OLD), ('or', OLD, YES)):
            self.assertIs(is_condition(SCHEMA, 'town', condition), True, condition)
        self.assertIs(is_condition(schema=SCHEMA, table='man', thing=('has', 'id', 'shop', 'by', OPEN)), True)

    def test_sixteen_levels(self):
        for wrap in (lambda it: ('not', it), lambda it: ('and', it, it), lambda it: ('or', YES, it),
                     lambda it: ('has', 'id', 'town', 'of', it)):
            condition, wrong = OLD, OPEN
            for _ in range(15):
                condition, wrong = wrap(condition), wrap(wrong)
            self.assertIs(is_condition(SCHEMA, 'town', condition), True)
            self.assertIs(is_condition(SCHEMA, 'town', wrong), False)

    def test_wrong_words_and_numbers_of_parts(self):
        for thing in (('no',), ('nor', YES, YES), ('YES',), ('yes\n',), (None,), (1,), (True,), (YES,), (['yes'],), ({},),
                      (), ('yes', 'yes'), ('yes', YES), ('flag',), ('flag', 'old', 'old'), ('flag', YES), ('not',),
                      ('not', YES, YES), ('not', 'yes'), ('and', YES), ('and', YES, YES, YES), ('or',), ('or', YES),
                      ('or', YES, YES, YES), ('has', 'id', 'shop', 'at'), ('has', 'id', 'shop', YES),
                      ('has', 'id', 'shop', 'at', YES, YES), 'yes', 'not yes', None, ['yes'], ['not', YES],
                      ('not', ['yes']), ('and', YES, ['yes']), ['has', 'id', 'shop', 'at', YES]):
            self.assertIs(is_condition(SCHEMA, 'town', thing), False, thing)

    def test_flags_and_columns(self):
        for thing in (OPEN, ('flag', 'id'), ('flag', 'town'), ('flag', None), ('flag', ['old']), ('flag', ('old',)),
                      ('has', 'at', 'shop', 'at', YES), ('has', 'nosuch', 'shop', 'at', YES), ('has', 'old', 'shop', 'at', YES),
                      ('has', 'id', 'nosuch', 'at', YES), ('has', 'id', 'shop', 'id', YES), ('has', 'id', 'shop', 'nosuch', YES),
                      ('has', 'id', 'shop', 'open', YES), ('has', 'id', 'shop', 'by', YES), ('has', 'id', 'man', 'id', YES),
                      ('has', ['id'], 'shop', 'at', YES), ('has', 'id', ['shop'], 'at', YES), ('has', 'id', 'shop', None, YES),
                      ('has', 'id', 'shop', 'at', OLD), ('has', 'of', 'town', 'id', OPEN), ('not', OPEN), ('and', OLD, OPEN),
                      ('has', 'id', 'shop', 'at', ('has', 'id', 'shop', 'at', YES)), ('or', OPEN, OLD)):
            self.assertIs(is_condition(SCHEMA, 'town', thing), False, thing)

    def test_any_object(self):
        for table in TABLES:
            for thing in THINGS:
                expected = reference.is_condition(TABLES, table, thing)
                self.assertIs(is_condition(SCHEMA, table, thing), expected, repr(thing)[:60])

    def test_variations(self):
        told = []
        good = ('and', ('has', 'id', 'shop', 'at', ('not', OPEN)), ('or', ('has', 'of', 'town', 'id', YES), ('flag', 'shut')))
        for thing in variations(good):
            told.append(is_condition(SCHEMA, 'town', thing))
            self.assertIs(told[-1], reference.is_condition(TABLES, 'town', thing), thing)
        self.assertGreater(told.count(True), 5)
        self.assertGreater(told.count(False), 300)

    def test_unknown_table_first_for_any_object(self):
        for thing in THINGS:
            if thing not in ('town', 'shop'):
                for condition in THINGS[::5] + [YES]:
                    with self.assertRaises(UnknownTable):
                        is_condition(SCHEMA, thing, condition)


class MeetsTest(unittest.TestCase):
    def told(self, table, condition):
        return [meets(SCHEMA, ROWS, table, index, condition) for index in range(len(ROWS[table]))]

    def test_each_form(self):
        self.assertEqual(self.told('town', YES), [True, True, True])
        self.assertEqual(self.told('town', OLD), [True, False, True])
        self.assertEqual(self.told('town', ('flag', 'shut')), [False, False, True])
        self.assertEqual(self.told('town', ('not', OLD)), [False, True, False])
        self.assertEqual(self.told('town', ('and', OLD, ('flag', 'shut'))), [False, False, True])
        self.assertEqual(self.told('town', ('or', ('flag', 'shut'), OLD)), [True, False, True])
        self.assertEqual(self.told('town', ('has', 'id', 'shop', 'at', YES)), [True, False, False])
        self.assertEqual(self.told('town', ('has', 'of', 'town', 'id', OLD)), [False, False, True])

    def test_has_by_itself_by_another_by_none(self):
        self.assertEqual(self.told('town', ('has', 'id', 'town', 'id', OLD)), [True, False, True])
        self.assertEqual(self.told('man', ('has', 'id', 'shop', 'by', YES)), [True, True])
        self.assertEqual(self.told('man', ('has', 'id', 'shop', 'by', ('not', OPEN))), [False, False])
        self.assertEqual(self.told('shop', ('has', 'by', 'man', 'id', YES)), [True, False])
        # The second one meets it by itself alone, the third by no row.
        self.assertEqual(self.told('town', ('has', 'id', 'town', 'of', YES)), [True, True, False])
        self.assertEqual(self.told('town', ('has', 'id', 'town', 'of', NO)), [False, False, False])

    def test_has_within_has(self):
        inner = ('has', 'at', 'town', 'id', OLD)
        self.assertEqual(self.told('man', ('has', 'id', 'shop', 'by', inner)), [True, True])
        self.assertEqual(self.told('man', ('has', 'id', 'shop', 'by', ('not', inner))), [False, False])
        self.assertEqual(self.told('town', ('has', 'of', 'town', 'id', ('has', 'id', 'shop', 'at', YES))), [False, False, True])

    def test_parameters_by_name(self):
        self.assertIs(meets(schema=SCHEMA, rows=ROWS, table='town', index=1, condition=OLD), False)

    def test_random_conditions(self):
        dice = new_dice()
        told = []
        for _ in range(600):
            table = dice.choice(list(TABLES))
            rows = random_rows(dice, TABLES, 5, 3)
            condition = random_condition(dice, TABLES, table, 4)
            for index, row in enumerate(rows[table]):
                told.append(meets(SCHEMA, turned_round(rows), table, index, condition))
                self.assertIs(told[-1], reference.meets(TABLES, rows, table, row, condition), (rows, condition))
        self.assertGreater(min(told.count(True), told.count(False)), 200)

    def test_errors_in_their_order_for_any_objects(self):
        for thing in THINGS:
            with self.assertRaises(InvalidRows):
                meets(SCHEMA, thing, thing, thing, thing)
            with self.assertRaises(InvalidRows):
                meets(SCHEMA, thing, 'town', 0, YES)
            if thing not in ('town', 'shop'):
                with self.assertRaises(UnknownTable):
                    meets(SCHEMA, ROWS, thing, thing, thing)
                with self.assertRaises(UnknownTable):
                    meets(SCHEMA, ROWS, thing, 0, YES)
            if type(thing) is not int or not 0 <= thing < 3:
                with self.assertRaises(UnknownRow):
                    meets(SCHEMA, ROWS, 'town', thing, thing)
                with self.assertRaises(UnknownRow):
                    meets(SCHEMA, ROWS, 'town', thing, YES)
            if thing not in (YES, OLD):
                with self.assertRaises(InvalidCondition):
                    meets(SCHEMA, ROWS, 'town', 0, thing)

    def test_indexes(self):
        for index in (-1, 3, True, False, None, 10 ** 39, '0', (0,), [0]):
            with self.assertRaises(UnknownRow):
                meets(SCHEMA, ROWS, 'town', index, YES)
        with self.assertRaises(UnknownRow):
            meets(SCHEMA, {'town': [], 'shop': [], 'man': []}, 'town', 0, NO)

    def test_many_rows_in_good_time(self):
        condition = linked_condition()
        start = time.process_time()
        self.assertIs(meets(SCHEMA, LINKED_ROWS, 'shop', 1499, condition), False)
        self.assertIs(meets(SCHEMA, LINKED_ROWS, 'shop', 0, ('not', condition)), True)
        self.assertLess(time.process_time() - start, 10)

    def test_equal_parts_in_good_time(self):
        condition = ('has', 'of', 'town', 'id', OLD)
        for _ in range(13):
            condition = ('and', condition, condition)
        rows = {'town': [((at, (at + 1) % 1500), (at % 2 == 0, False)) for at in range(1500)], 'shop': [], 'man': []}
        start = time.process_time()
        self.assertIs(meets(SCHEMA, rows, 'town', 0, condition), False)
        self.assertIs(meets(SCHEMA, rows, 'town', 1, condition), True)
        self.assertLess(time.process_time() - start, 10)


class PartsTest(unittest.TestCase):
    def test_depth(self):
        link = ('has', 'id', 'town', 'of', YES)
        for condition, expected in ((YES, 0), (OLD, 0), (('not', YES), 0), (link, 1), (('and', link, link), 1),
                                    (('not', ('or', YES, link)), 1), (('has', 'id', 'town', 'of', ('not', link)), 2),
                                    (('and', link, ('has', 'id', 'town', 'of', link)), 2),
                                    (('or', ('has', 'id', 'town', 'of', ('and', YES, link)), link), 2)):
            self.assertEqual(depth(condition), expected, condition)
        condition = YES
        for _ in range(15):
            condition = ('has', 'id', 'town', 'of', condition)
        self.assertEqual(depth(condition=condition), 15)

    def test_has_parts(self):
        inner = ('has', 'at', 'town', 'of', OLD)
        outer = ('has', 'id', 'shop', 'at', ('not', inner))
        own = ('has', 'of', 'town', 'id', YES)
        told = has_parts('town', ('or', ('and', outer, own), ('not', own)))
        self.assertEqual(told, [
            ('town', 'id', 'shop', 'at', ('not', inner)), ('shop', 'at', 'town', 'of', OLD),
            ('town', 'of', 'town', 'id', YES), ('town', 'of', 'town', 'id', YES)])
        self.assertEqual(has_parts(table='town', condition=('and', YES, ('not', OLD))), [])
        self.assertEqual(has_parts('town', ('has', 'of', 'town', 'id', own)),
                         [('town', 'of', 'town', 'id', own), ('town', 'of', 'town', 'id', YES)])

    def test_has_parts_are_new(self):
        condition = ('has', 'of', 'town', 'id', YES)
        has_parts('town', condition).clear()
        self.assertEqual(has_parts('town', condition), [('town', 'of', 'town', 'id', YES)])


if __name__ == '__main__':
    unittest.main()
