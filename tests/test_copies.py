import copy as copying
import itertools
import unittest

from rulesmerged.copies import are_kinds, changes_of, copy_rows, is_copy, unchanged
from rulesmerged.errors import InvalidCopy, InvalidRows
from rulesmerged.schemas import Schema
from tests import reference
from tests.things import ROWS, TABLES, THINGS, new_dice, random_copy, random_rows, turned_round, variations

SCHEMA = Schema(TABLES)
SAME = {
    'town': ([(True, False), (False, False), (True, True)], []),
    'shop': ([(True,), (False,)], []),
    'man': ([(), ()], []),
}
COPY = {
    'town': ([None, (True, False), (True, False)], []),
    'shop': ([(True,), (False,)], [((3, 4), (True,)), ((3, 4), (True,))]),
    'man': ([(), None], [((5,), ())]),
}


class IsCopyTest(unittest.TestCase):
    def test_copies(self):
        for thing in (SAME, COPY, turned_round(COPY), {**SAME, 'town': ([None, None, None], ROWS['town'])}):
            self.assertIs(is_copy(SCHEMA, ROWS, thing), True)
        self.assertIs(is_copy(schema=SCHEMA, base=ROWS, thing=COPY), True)

    def test_wrong_tables(self):
        for own in (([(True,)], []), ([(True,)] * 3, []), ([], []), ([(True,), ()], []), ([(True,), (True, True)], []),
                    ([(True,), (1,)], []), ([(True,), (0,)], []), ([(True,), (None,)], []), ([(True,), [True]], []),
                    ([(True,), True], []), ([(True,), False], []), ([(True,), 0], []), (((True,), (True,)), []),
                    ([(True,), None], ()), ([(True,), None], None), ([(True,), None],), ([(True,), None], [], []),
                    [[(True,), None], []], (None, []), ([(True,), None], [((3,), (True,))]), ([(True,), None], [None]),
                    ([(True,), None], [((3, -4), (True,))]), ([(True,), None], [((3, True), (True,))]),
                    ([(True,), None], [((3, 4), (1,))]), ([(True,), None], [[(3, 4), (True,)]]), None, [], {}):
            self.assertIs(is_copy(SCHEMA, ROWS, {**SAME, 'shop': own}), False, own)
        few = {table: SAME[table] for table in ('town', 'shop')}
        for thing in (few, {**SAME, 'more': ([], [])}, {**few, 'men': SAME['man']}, list(SAME), list(SAME.items())):
            self.assertIs(is_copy(SCHEMA, ROWS, thing), False, thing)

    def test_any_object(self):
        small = Schema({'town': ((('id', 'town'),), ())})
        for thing in THINGS:
            self.assertIs(is_copy(SCHEMA, ROWS, thing), False, repr(thing)[:60])
            self.assertIs(is_copy(small, {'town': []}, thing), thing == {'town': ([], [])}, repr(thing)[:60])

    def test_variations(self):
        told = []
        for thing in variations(COPY):
            told.append(is_copy(SCHEMA, ROWS, thing))
            self.assertIs(told[-1], reference.is_copy(TABLES, ROWS, thing), thing)
        self.assertGreater(told.count(True), 20)
        self.assertGreater(told.count(False), 500)

    def test_invalid_rows_for_any_object(self):
        for thing in THINGS:
            for other in (COPY, thing, None):
                with self.assertRaises(InvalidRows):
                    is_copy(SCHEMA, thing, other)


class CopyRowsTest(unittest.TestCase):
    def test_rows(self):
        self.assertEqual(copy_rows(SCHEMA, ROWS, SAME), ROWS)
        self.assertEqual(copy_rows(schema=SCHEMA, base=ROWS, copy=COPY), {
            'man': [((7,), ()), ((5,), ())],
            'shop': [((1, 7), (True,)), ((9, 8), (False,)), ((3, 4), (True,)), ((3, 4), (True,))],
            'town': [((2, 2), (True, False)), ((3, 1), (True, False))]})

    def test_keys_ascend_and_their_order_means_nothing(self):
        self.assertEqual(list(copy_rows(SCHEMA, ROWS, COPY)), ['man', 'shop', 'town'])
        self.assertEqual(list(copy_rows(SCHEMA, turned_round(ROWS), turned_round(COPY))), ['man', 'shop', 'town'])
        self.assertEqual(copy_rows(SCHEMA, turned_round(ROWS), COPY), copy_rows(SCHEMA, ROWS, turned_round(COPY)))

    def test_what_is_returned_stands_apart(self):
        base, own = copying.deepcopy(ROWS), copying.deepcopy(COPY)
        for call in (lambda: copy_rows(SCHEMA, base, own), lambda: copy_rows(SCHEMA, base, unchanged(SCHEMA, base))):
            before = call()
            told = call()
            self.assertEqual(len({id(each) for each in told.values()}), 3)
            for each in told.values():
                each.append('x')
            self.assertEqual(call(), before)
        self.assertEqual([base, own], [ROWS, COPY])

    def test_one_list_may_stand_twice_in_what_is_passed(self):
        once = []
        empty = {'town': once, 'shop': once, 'man': once}
        told = copy_rows(SCHEMA, empty, {'town': (once, once), 'shop': (once, once), 'man': (once, once)})
        told['town'].append('x')
        self.assertEqual([told['shop'], told['man'], once], [[], [], []])


class ChangesTest(unittest.TestCase):
    def test_each_kind_alone(self):
        town, shop = SAME['town'][0], SAME['shop'][0]
        for own, kind in (({'town': (town, [((1, 1), (True, True))])}, ('put', 'town')),
                          ({'town': ([None] + town[1:], [])}, ('drop', 'town')),
                          ({'town': ([(True, True)] + town[1:], [])}, ('on', 'town', 'shut')),
                          ({'town': ([(False, False)] + town[1:], [])}, ('off', 'town', 'old')),
                          ({'town': (town[:2] + [(True, False)], [])}, ('off', 'town', 'shut')),
                          ({'shop': ([(False,), shop[1]], [])}, ('off', 'shop', 'open')),
                          ({'shop': ([shop[0], (True,)], [])}, ('on', 'shop', 'open')),
                          ({'man': ([None, ()], [])}, ('drop', 'man')),
                          ({'man': ([(), ()], [((0,), ())])}, ('put', 'man'))):
            self.assertEqual(changes_of(SCHEMA, ROWS, {**SAME, **own}), [kind])

    def test_several_together(self):
        self.assertEqual(changes_of(schema=SCHEMA, base=ROWS, copy=COPY), [
            ('drop', 'man'), ('drop', 'town'), ('off', 'town', 'shut'), ('on', 'town', 'old'), ('put', 'man'), ('put', 'shop')])
        swapped = {**SAME, 'shop': ([(False,), (True,)], [])}
        self.assertEqual(changes_of(SCHEMA, ROWS, swapped), [('off', 'shop', 'open'), ('on', 'shop', 'open')])

    def test_none(self):
        self.assertEqual(changes_of(SCHEMA, ROWS, SAME), [])
        empty = {'town': [], 'shop': [], 'man': []}
        self.assertEqual(changes_of(SCHEMA, empty, unchanged(SCHEMA, empty)), [])

    def test_dropped_rows_turn_no_flag(self):
        self.assertEqual(changes_of(SCHEMA, ROWS, {**SAME, 'town': ([None, None, None], [])}), [('drop', 'town')])

    def test_random_copies(self):
        dice = new_dice()
        seen = set()
        for _ in range(400):
            base = random_rows(dice, TABLES, 3, 3)
            own = random_copy(dice, TABLES, base, 2, 3)
            expected = [kind for kind in reference.changes(TABLES) if reference.does(TABLES, base, own, kind)]
            self.assertIs(is_copy(SCHEMA, base, own), True)
            self.assertEqual(changes_of(SCHEMA, turned_round(base), turned_round(own)), expected)
            seen.update(expected)
        self.assertEqual(sorted(seen), SCHEMA.changes)

    def test_errors_in_their_order_for_any_objects(self):
        for call in (copy_rows, changes_of):
            for thing in THINGS:
                for other in (thing, COPY, None):
                    with self.assertRaises(InvalidRows):
                        call(SCHEMA, thing, other)
                with self.assertRaises(InvalidCopy):
                    call(SCHEMA, ROWS, thing)

    def test_results_are_new(self):
        own = copying.deepcopy(COPY)
        changes_of(SCHEMA, ROWS, own).clear()
        self.assertEqual(own, COPY)
        self.assertEqual(len(changes_of(SCHEMA, ROWS, own)), 6)


class UnchangedTest(unittest.TestCase):
    def test_copy(self):
        self.assertEqual(unchanged(SCHEMA, ROWS), SAME)
        self.assertEqual(list(unchanged(schema=SCHEMA, base=turned_round(ROWS))), ['man', 'shop', 'town'])

    def test_what_is_returned_stands_apart(self):
        base = copying.deepcopy(ROWS)
        told = unchanged(SCHEMA, base)
        lists = [each for table in told for each in told[table]]
        self.assertEqual(len({id(each) for each in lists}), 6)
        for each in lists:
            each.append('x')
        self.assertEqual(base, ROWS)
        self.assertEqual(unchanged(SCHEMA, base), SAME)

    def test_invalid_rows_for_any_object(self):
        for thing in THINGS:
            with self.assertRaises(InvalidRows):
                unchanged(SCHEMA, thing)


class AreKindsTest(unittest.TestCase):
    def test_kinds(self):
        for thing in ([], SCHEMA.changes, SCHEMA.changes[::-1], [('put', 'town')], [('on', 'town', 'old'), ('drop', 'man')]):
            self.assertIs(are_kinds(SCHEMA, thing), True)
        self.assertIs(are_kinds(schema=SCHEMA, thing=[('off', 'shop', 'open')]), True)

    def test_wrong_kinds(self):
        for kind in (('put', 'nosuch'), ('put',), ('put', 'town', 'old'), ('on', 'town'), ('on', 'town', 'open'), ('on', 'man', 'old'),
                     ('on', 'town', 'old', 'shut'), ['put', 'town'], 'put town', None, True, (), ('turn', 'town', 'old'),
                     ('PUT', 'town'), ('put', ['town']), ('put', None), ('drop', 'town', ()), [], {}):
            self.assertIs(are_kinds(SCHEMA, [kind]), False, kind)
            self.assertIs(are_kinds(SCHEMA, [('put', 'town'), kind]), False, kind)

    def test_one_twice(self):
        for first, second in itertools.product(SCHEMA.changes, repeat=2):
            self.assertIs(are_kinds(SCHEMA, [first, second]), first != second)
        self.assertIs(are_kinds(SCHEMA, [('put', 'town'), ('put', 'man'), ('put', 'town')]), False)
        self.assertIs(are_kinds(SCHEMA, [('put', 'town')] * 100000), False)

    def test_any_object(self):
        for thing in THINGS + [tuple(SCHEMA.changes), {kind: True for kind in SCHEMA.changes}]:
            self.assertIs(are_kinds(SCHEMA, thing), reference.are_kinds(TABLES, thing), repr(thing)[:60])
        for thing in variations([('put', 'town'), ('on', 'town', 'old')]):
            self.assertIs(are_kinds(SCHEMA, thing), reference.are_kinds(TABLES, thing), thing)

    def test_argument_stays(self):
        kinds = [('put', 'town'), ('drop', 'town')]
        are_kinds(SCHEMA, kinds)
        self.assertEqual(kinds, [('put', 'town'), ('drop', 'town')])


if __name__ == '__main__':
    unittest.main()
