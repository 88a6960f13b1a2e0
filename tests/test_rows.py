import copy
import unittest

from rulesmerged.errors import InvalidRows, UnknownColumn, UnknownTable
from rulesmerged.rows import are_rows, beside, rows_at
from rulesmerged.schemas import Schema
from tests import reference
from tests.things import ROWS, TABLES, THINGS, new_dice, random_rows, turned_round, variations

SCHEMA = Schema(TABLES)
EMPTY = {'town': [], 'shop': [], 'man': []}


class AreRowsTest(unittest.TestCase):
    def test_rows(self):
        great = 10 ** 39
        for thing in (ROWS, EMPTY, turned_round(ROWS), {**EMPTY, 'man': [((great,), ())] * 2}):
            self.assertIs(are_rows(SCHEMA, thing), True)
        self.assertIs(are_rows(schema=SCHEMA, thing=ROWS), True)

    def test_any_object(self):
        small = Schema({'town': ((('id', 'town'),), ())})
        for thing in THINGS:
            self.assertIs(are_rows(SCHEMA, thing), False, repr(thing)[:60])
            self.assertIs(are_rows(small, thing), thing == {'town': []}, repr(thing)[:60])

    def test_variations(self):
        told = []
        for thing in variations(ROWS):
            told.append(are_rows(SCHEMA, thing))
            self.assertIs(told[-1], reference.are_rows(TABLES, thing), repr(thing))
        self.assertGreater(told.count(True), 20)
        self.assertGreater(told.count(False), 500)

    def test_wrong_rows(self):
        for row in (((1,), ()), ((1, 2, 3), (True,)), ((1, 2), ()), ((1, 2), (True, True)), ((1, -1), (True,)),
                    ((1, True), (True,)), ((False, 1), (True,)), ((1, '2'), (True,)), ((1, None), (True,)),
                    ((1, 2), (1,)), ((1, 2), (0,)), ((1, 2), (None,)), ([1, 2], (True,)), ((1, 2), [True]),
                    [(1, 2), (True,)], ((1, 2),), ((1, 2), (True,), ()), ((1, (2,)), (True,))):
            self.assertIs(are_rows(SCHEMA, {**EMPTY, 'shop': [row]}), False, row)
            self.assertIs(are_rows(SCHEMA, {**EMPTY, 'shop': [((1, 2), (True,)), row]}), False, row)

    def test_wrong_tables(self):
        for thing in ({'town': [], 'shop': []}, {**EMPTY, 'more': []}, {'town': [], 'shop': [], 'men': []},
                      {**EMPTY, 'man': ()}, {**EMPTY, 'man': {}}, {**EMPTY, 'man': None}, {}):
            self.assertIs(are_rows(SCHEMA, thing), False, thing)


class RowsAtTest(unittest.TestCase):
    def test_indexes_ascend(self):
        self.assertEqual(rows_at(SCHEMA, ROWS, 'town', 'of', 2), [0, 1])
        self.assertEqual(rows_at(SCHEMA, ROWS, 'town', 'id', 2), [1])
        self.assertEqual(rows_at(SCHEMA, ROWS, 'man', 'id', 7), [0, 1])
        self.assertEqual(rows_at(SCHEMA, ROWS, 'man', 'id', 6), [])
        self.assertEqual(rows_at(SCHEMA, EMPTY, 'man', 'id', 7), [])
        self.assertEqual(rows_at(schema=SCHEMA, rows=ROWS, table='shop', column='by', value=8), [1])

    def test_any_object_as_value(self):
        rows = {**EMPTY, 'man': [((1,), ()), ((0,), ()), ((10 ** 39,), ())]}
        for thing in THINGS:
            number = type(thing) is int and thing >= 0
            expected = [at for at, row in enumerate(rows['man']) if number and row[0][0] == thing]
            self.assertEqual(rows_at(SCHEMA, rows, 'man', 'id', thing), expected, repr(thing)[:60])
        self.assertEqual(rows_at(SCHEMA, rows, 'man', 'id', True), [])
        self.assertEqual(rows_at(SCHEMA, rows, 'man', 'id', False), [])
        self.assertEqual(rows_at(SCHEMA, rows, 'man', 'id', 1), [0])

    def test_errors_in_their_order_for_any_objects(self):
        for thing in THINGS:
            with self.assertRaises(InvalidRows):
                rows_at(SCHEMA, thing, thing, thing, thing)
            with self.assertRaises(InvalidRows):
                rows_at(SCHEMA, thing, 'town', 'id', 1)
            if thing not in ('town', 'shop'):
                with self.assertRaises(UnknownTable):
                    rows_at(SCHEMA, ROWS, thing, thing, thing)
                with self.assertRaises(UnknownTable):
                    rows_at(SCHEMA, ROWS, thing, 'id', 1)
            if thing not in ('at', 'by'):
                with self.assertRaises(UnknownColumn):
                    rows_at(SCHEMA, ROWS, 'shop', thing, thing)


class BesideTest(unittest.TestCase):
    def test_others_are_raised_behind(self):
        others = {'town': [((0, 5), (True, True))], 'shop': [((2, 0), (False,))], 'man': []}
        self.assertEqual(beside(SCHEMA, ROWS, others), {
            'man': ROWS['man'],
            'shop': ROWS['shop'] + [((12, 10), (False,))],
            'town': ROWS['town'] + [((10, 15), (True, True))]})
        self.assertEqual(beside(schema=SCHEMA, rows=others, others=EMPTY), others)

    def test_nothing_is_added_without_values(self):
        self.assertEqual(beside(SCHEMA, EMPTY, ROWS), ROWS)
        self.assertEqual(beside(SCHEMA, EMPTY, EMPTY), EMPTY)
        zero = {**EMPTY, 'man': [((0,), ())]}
        self.assertEqual(beside(SCHEMA, zero, zero), {**EMPTY, 'man': [((0,), ()), ((1,), ())]})

    def test_great_values(self):
        rows = {**EMPTY, 'man': [((10 ** 39,), ())]}
        self.assertEqual(beside(SCHEMA, rows, rows)['man'], [((10 ** 39,), ()), ((2 * 10 ** 39 + 1,), ())])

    def test_random_rows_meet_no_value_of_the_others(self):
        dice = new_dice()
        for _ in range(100):
            rows, others = random_rows(dice, TABLES, 3, 4), random_rows(dice, TABLES, 3, 4)
            told = beside(SCHEMA, rows, others)
            used = [value for table in TABLES for row in rows[table] for value in row[0]]
            added = 1 + max(used) if used else 0
            for table in TABLES:
                more = [(tuple(value + added for value in values), flags) for values, flags in others[table]]
                self.assertEqual(told[table], rows[table] + more)

    def test_keys(self):
        told = beside(SCHEMA, {key: ROWS[key] for key in ('town', 'man', 'shop')}, turned_round(ROWS))
        self.assertEqual(list(told), ['man', 'shop', 'town'])
        self.assertEqual(told, beside(SCHEMA, ROWS, ROWS))

    def test_arguments_and_results_stand_apart(self):
        rows, others = copy.deepcopy(ROWS), copy.deepcopy(EMPTY)
        told = beside(SCHEMA, rows, others)
        self.assertEqual([rows, others], [ROWS, EMPTY])
        for lists in ([told[table] for table in TABLES], [beside(SCHEMA, EMPTY, rows)[table] for table in TABLES]):
            self.assertEqual(len({id(each) for each in lists}), 3)
            for each in lists:
                each.append('x')
        self.assertEqual([rows, others], [ROWS, EMPTY])
        same = beside(SCHEMA, others, others)
        self.assertIsNot(same, others)
        self.assertEqual(len({id(same[table]) for table in TABLES} | {id(others[table]) for table in TABLES}), 6)

    def test_one_list_may_stand_twice_in_what_is_passed(self):
        once = []
        told = beside(SCHEMA, {'town': once, 'shop': once, 'man': once}, EMPTY)
        self.assertEqual(len({id(told[table]) for table in TABLES}), 3)

    def test_invalid_rows_for_any_objects(self):
        for thing in THINGS:
            for rows, others in ((thing, ROWS), (ROWS, thing), (thing, thing)):
                with self.assertRaises(InvalidRows):
                    beside(SCHEMA, rows, others)


if __name__ == '__main__':
    unittest.main()
