import itertools
import time
import unittest

from rulesmerged.errors import InvalidBook, InvalidKinds, InvalidWays
from rulesmerged.free import greatest_free, is_free, least_bad
from rulesmerged.kept import is_kept
from rulesmerged.schemas import Schema
from tests import reference, reference_histories
from tests.test_arguments import lists_and_dicts
from tests.test_kept import AT, BOOK, DROP, KEEP, SCHEMA, TABLES, YES
from tests.things import THINGS, check_errors, new_dice, random_terms, turned_round, variations, wrong_ones

FLAG_TABLES = {'town': ((('id', 'town'), ('of', 'town')), ('busy', 'shut'))}
FLAG_SCHEMA = Schema(FLAG_TABLES)
NOT_BOTH = ('town', ('not', ('and', ('flag', 'busy'), ('flag', 'shut'))))
TURNED = {'town': ('drop', ('turned', 'turned'))}


def all_lists(kinds):
    return [list(each) for many in range(len(kinds) + 1) for each in itertools.combinations(kinds, many)]


def greatest_and_least(kinds, free):
    """What greatest_free and least_bad tell if just these lists of the kinds are free."""
    lists = all_lists(kinds)
    greatest = [each for each in free if not any(set(each) < set(other) for other in free)]
    bad = [each for each in lists if each not in free]
    return sorted(greatest), sorted([each for each in bad if not any(set(other) < set(each) for other in bad)])


class IsFreeTest(unittest.TestCase):
    def test_none_all_and_any_order(self):
        self.assertIs(is_free(SCHEMA, BOOK, DROP, []), True)
        self.assertIs(is_free(SCHEMA, BOOK, DROP, SCHEMA.changes), False)
        self.assertIs(is_free(SCHEMA, BOOK, KEEP, SCHEMA.changes), True)
        self.assertIs(is_free(schema=SCHEMA, book=BOOK, ways=turned_round(KEEP), kinds=SCHEMA.changes[::-1]), True)
        for kinds in itertools.permutations([('put', 'shop'), ('put', 'town'), ('drop', 'shop')]):
            self.assertIs(is_free(SCHEMA, BOOK, DROP, list(kinds)), True)
        for kinds in ([('drop', 'town')], [('put', 'town'), ('drop', 'town')], [('drop', 'town'), ('put', 'town')]):
            self.assertIs(is_free(SCHEMA, BOOK, DROP, kinds), False)

    def test_the_list_is_let_to_both_copies(self):
        dice = new_dice()
        for many in [0, 1, 2] * 60:
            tables, book, ways, (kinds, _) = random_terms(dice, many)
            self.assertIs(is_free(Schema(tables), book, ways, kinds), is_kept(Schema(tables), book, ways, (kinds, kinds)))

    def test_the_empty_list_is_always_free(self):
        # Copies that do no changes and their merge are the base, by all ways. So greatest_free is never [] and least_bad
        # never [[]], which is what they would be, by the words of the document, if not even the empty list were free.
        dice = new_dice()
        for many in [0, 1, 2] * 60:
            tables, book, ways, _ = random_terms(dice, many)
            self.assertIs(is_free(Schema(tables), book, ways, []), True)
            if len(Schema(tables).changes) <= 6:
                self.assertNotEqual(greatest_free(Schema(tables), book, ways), [])
                self.assertNotIn([], least_bad(Schema(tables), book, ways))
            if many < 2:
                self.assertEqual(len(reference_histories.kept_rules(tables, book, ways, ([], []))), len(book))


class GreatestAndLeastTest(unittest.TestCase):
    def both(self, *arguments):
        return greatest_free(*arguments), least_bad(*arguments)

    def test_where_all_are_free(self):
        self.assertEqual(self.both(SCHEMA, BOOK, KEEP), ([SCHEMA.changes], []))
        self.assertEqual(self.both(SCHEMA, [], DROP), ([SCHEMA.changes], []))
        # No row keeps this book, so nothing can break it.
        self.assertEqual(self.both(SCHEMA, [('shop', ('not', YES)), ('town', ('not', YES))], DROP), ([SCHEMA.changes], []))

    def test_one_greatest_list(self):
        free = [('drop', 'shop'), ('put', 'shop'), ('put', 'town')]
        self.assertEqual(self.both(SCHEMA, BOOK, DROP), ([free], [[('drop', 'town')]]))
        self.assertEqual(greatest_free(schema=SCHEMA, book=[AT], ways=turned_round(DROP)), [free])
        self.assertEqual(least_bad(schema=SCHEMA, book=[AT], ways=turned_round(DROP)), [[('drop', 'town')]])

    def test_several_greatest_lists_of_six_kinds(self):
        busy, shut = ('on', 'town', 'busy'), ('on', 'town', 'shut')
        others = [('drop', 'town'), ('off', 'town', 'busy'), ('off', 'town', 'shut')]
        self.assertEqual(self.both(FLAG_SCHEMA, [NOT_BOTH], TURNED), (
            [others + [busy, ('put', 'town')], others + [shut, ('put', 'town')]], [[busy, shut]]))
        # With "on" what one copy turned off may come back, with "off" what one copy turned on may go.
        self.assertEqual(least_bad(FLAG_SCHEMA, [NOT_BOTH], {'town': ('drop', ('on', 'on'))}), [
            [('off', 'town', 'busy'), shut], [('off', 'town', 'shut'), busy], [busy, shut]])
        self.assertEqual(least_bad(FLAG_SCHEMA, [('town', ('or', ('flag', 'busy'), ('flag', 'shut')))], {'town': ('drop', ('off', 'off'))}), [
            [('off', 'town', 'busy'), ('off', 'town', 'shut')], [('off', 'town', 'busy'), shut], [('off', 'town', 'shut'), busy]])

    def test_random_books_against_all_lists(self):
        dice, seen, many_plain = new_dice(), set(), 0
        while len(seen) < 12 or many_plain < 25:
            tables, book, ways, _ = random_terms(dice, dice.choice([0, 1, 1, 2]))
            schema = Schema(tables)
            if len(schema.changes) > 6:
                continue
            free = [each for each in all_lists(schema.changes) if is_kept(schema, book, ways, (each, each))]
            told = self.both(schema, book, turned_round(ways))
            self.assertEqual(told, greatest_and_least(schema.changes, free))
            seen.add(repr(told))
            if len(schema.changes) <= 4 and len(reference_histories.looks(book)) < 2 and len(tables) < 3:
                self.assertEqual(free, reference_histories.free_lists(tables, book, ways))
                many_plain += 1

    def test_the_least_bad_lists_are_the_least_that_leave_each_greatest_free_one(self):
        dice = new_dice()
        for many in [1, 2] * 20:
            tables, book, ways, _ = random_terms(dice, many)
            schema = Schema(tables)
            if len(schema.changes) <= 6:
                greatest, least = self.both(schema, book, ways)
                leaving = [set(each) for each in all_lists(schema.changes) if all(set(each) - set(own) for own in greatest)]
                expected = [each for each in leaving if not any(other < each for other in leaving)]
                self.assertEqual(sorted(map(sorted, expected)), least)

    def test_lists_are_new_and_stand_once(self):
        for call in (greatest_free, least_bad):
            told = [call(FLAG_SCHEMA, [NOT_BOTH], TURNED) for _ in range(2)]
            found = lists_and_dicts(told)
            self.assertEqual(len({id(each) for each in found}), len(found))
            told[0][0].clear()
            self.assertEqual(call(FLAG_SCHEMA, [NOT_BOTH], TURNED), told[1])

    def test_six_kinds_in_good_time(self):
        start = time.process_time()
        tables = {'shop': ((('at', 'k'), ('by', 'k'), ('of', 'k')), ('open',)), 'town': ((('at', 'k'), ('by', 'k'), ('of', 'k')), ())}
        look = ('has', 'at', 'shop', 'by', ('or', ('flag', 'open'), ('has', 'of', 'town', 'at', YES)))
        for condition in (look, ('not', look), ('or', ('flag', 'open'), look)):
            for word in ('turned', 'on', 'off'):
                for drop in ('drop', 'keep'):
                    ways = {'shop': (drop, (word,)), 'town': (drop, ())}
                    greatest, least = self.both(Schema(tables), [('shop', condition)], ways)
                    self.assertTrue(greatest and greatest != [[]] and [] not in least)
        self.assertLess(time.process_time() - start, 30)


class ErrorsTest(unittest.TestCase):
    def test_kinds(self):
        told = []
        for kinds in THINGS + list(variations([('drop', 'town'), ('put', 'shop')])):
            if not reference.are_kinds(TABLES, kinds):
                with self.assertRaises(InvalidKinds):
                    is_free(SCHEMA, BOOK, DROP, kinds)
                told.append(kinds)
        self.assertGreater(len(told), 150)
        for kinds in ([('put', 'shop')] * 2, (('put', 'shop'),), [('on', 'shop', 'open')], ['put'], [['put', 'shop']], None, {('put', 'shop'): 1}):
            with self.assertRaises(InvalidKinds):
                is_free(SCHEMA, BOOK, DROP, kinds)

    def test_errors_in_their_order_for_any_objects(self):
        dice, kinds = new_dice(), [('drop', 'town'), ('put', 'shop')]
        faults = [
            (1, InvalidBook, dice.sample(wrong_ones(BOOK, lambda each: reference.is_book(TABLES, each)), 70)),
            (2, InvalidWays, dice.sample(wrong_ones(DROP, lambda each: reference_histories.are_ways(TABLES, each)), 70)),
            (3, InvalidKinds, wrong_ones(kinds, lambda each: reference.are_kinds(TABLES, each))),
        ]
        check_errors(self, is_free, [SCHEMA, BOOK, DROP, kinds], faults, dice)
        check_errors(self, greatest_free, [SCHEMA, BOOK, DROP], faults[:2], dice)
        check_errors(self, least_bad, [SCHEMA, BOOK, DROP], faults[:2], dice)


if __name__ == '__main__':
    unittest.main()
