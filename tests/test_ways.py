import itertools
import unittest

from rulesmerged.errors import InvalidBook, InvalidKinds
from rulesmerged.free import is_free
from rulesmerged.merges import are_ways
from rulesmerged.schemas import Schema
from rulesmerged.ways import all_ways, good_ways
from tests import edges, reference, reference_histories
from tests.test_arguments import lists_and_dicts
from tests.test_free import FLAG_SCHEMA, NOT_BOTH
from tests.test_kept import BOOK, DROP, KEEP, SCHEMA, TABLES
from tests.things import check_errors, new_dice, random_terms, turned_round, wrong_ones

FLAGS = ('off', 'on', 'turned')


def plain_ways(tables):
    """All ways, in their order, by what they have for the tables in ascending order."""
    own = [[(drop, words) for drop in ('drop', 'keep') for words in itertools.product(FLAGS, repeat=len(tables[table][1]))]
           for table in sorted(tables)]
    return [dict(zip(sorted(tables), each)) for each in sorted(itertools.product(*own))]


class AllWaysTest(unittest.TestCase):
    def test_tables_with_and_without_flags(self):
        for tables in (TABLES, edges.PLAIN, edges.FLAGS, edges.SHOPS, {'b': ((('k', 'k'),), ('y', 'x')), 'a': ((('k', 'k'),), ())}):
            schema = Schema(tables)
            told = all_ways(schema)
            self.assertEqual(told, plain_ways(tables))
            self.assertEqual(repr(told), repr(plain_ways(tables)))
            self.assertEqual(len(told), 2 ** len(tables) * 3 ** sum(len(flags) for _, flags in tables.values()))
            self.assertTrue(all(are_ways(schema, ways) for ways in told))
        self.assertEqual(all_ways(schema=SCHEMA), [
            {'shop': (first, ()), 'town': (second, ())} for first in ('drop', 'keep') for second in ('drop', 'keep')])

    def test_dicts_are_new_and_stand_once(self):
        told = [all_ways(SCHEMA), all_ways(SCHEMA), good_ways(SCHEMA, BOOK, []), good_ways(SCHEMA, BOOK, [])]
        found = lists_and_dicts(told)
        self.assertEqual(len({id(each) for each in found}), len(found))
        told[0][0].clear()
        self.assertEqual(all_ways(SCHEMA), told[1])


class GoodWaysTest(unittest.TestCase):
    def test_towns_are_kept(self):
        self.assertEqual(good_ways(SCHEMA, BOOK, SCHEMA.changes), [{'shop': ('drop', ()), 'town': ('keep', ())}, {'shop': ('keep', ()), 'town': ('keep', ())}])
        self.assertEqual(good_ways(schema=SCHEMA, book=BOOK, kinds=[('drop', 'town'), ('put', 'shop')]), good_ways(SCHEMA, BOOK, SCHEMA.changes))
        self.assertEqual(good_ways(SCHEMA, BOOK, [('drop', 'shop'), ('put', 'town'), ('put', 'shop')]), all_ways(SCHEMA))

    def test_all_and_none(self):
        for book in ([], [('town', ('yes',))], [('town', edges.NEVER), ('shop', edges.NEVER)]):
            self.assertEqual(good_ways(SCHEMA, book, SCHEMA.changes), all_ways(SCHEMA))
        self.assertEqual(good_ways(SCHEMA, BOOK, []), all_ways(SCHEMA))
        # No town is of two towns that are all of it: each copy may put the other one.
        alone = [('town', ('or', ('flag', 'old'), ('not', ('has', 'id', 'town', 'id', ('flag', 'old')))))]
        schema = Schema({'town': ((('id', 'town'),), ('old',))})
        self.assertEqual(good_ways(schema, alone, schema.changes), [])

    def test_flags(self):
        busy, shut = ('on', 'town', 'busy'), ('on', 'town', 'shut')
        told = good_ways(FLAG_SCHEMA, [NOT_BOTH], [busy, shut])
        self.assertEqual([ways['town'][1] for ways in told], [words for words in itertools.product(FLAGS, repeat=2) if 'off' in words] * 2)

    def test_edges(self):
        dice, many = new_dice(), {}
        for name, tables, book in edges.BOOKS:
            if len(tables) > 2:
                continue
            schema, ways = Schema(tables), all_ways(Schema(tables))
            for kinds in edges.kinds_of(tables, dice, len(schema.changes)):
                told = good_ways(schema, book, kinds)
                self.assertEqual(told, [each for each in ways if is_free(schema, book, turned_round(each), kinds)], name)
                many[name] = min(many.get(name, 36), len(told))
        self.assertEqual(min(many.values()), 0)
        self.assertGreater(max(many.values()), 3)

    def test_random_books_plainly(self):
        dice, many_plain, seen = new_dice(), 0, set()
        while many_plain < 25:
            tables, book, _, (kinds, _) = random_terms(dice, dice.choice([0, 1, 1]))
            if len(reference.changes(tables)) <= 4 and kinds:
                expected = [ways for ways in plain_ways(tables)
                            if len(reference_histories.kept_rules(tables, book, ways, (kinds, kinds))) == len(book)]
                self.assertEqual(good_ways(Schema(tables), book, kinds), expected)
                seen.add(len(expected) * 100 // len(plain_ways(tables)))
                many_plain += 1
        self.assertGreater(len(seen), 2)


class ErrorsTest(unittest.TestCase):
    def test_errors_in_their_order_for_any_objects(self):
        dice, kinds = new_dice(), [('drop', 'town'), ('put', 'shop')]
        faults = [
            (1, InvalidBook, wrong_ones(BOOK, lambda each: reference.is_book(TABLES, each))),
            (2, InvalidKinds, wrong_ones(kinds, lambda each: reference.are_kinds(TABLES, each))),
        ]
        check_errors(self, good_ways, [SCHEMA, BOOK, kinds], faults, dice)
        for wrong in ([('put', 'shop')] * 2, (('put', 'shop'),), [['put', 'shop']], [('on', 'shop', 'open')], None, DROP, KEEP):
            with self.assertRaises(InvalidKinds):
                good_ways(SCHEMA, BOOK, wrong)


if __name__ == '__main__':
    unittest.main()
