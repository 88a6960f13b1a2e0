import unittest

from rulesmerged.copies import copy_rows
from rulesmerged.errors import InvalidBook, InvalidLets, InvalidNumber, InvalidWays
from rulesmerged.histories import histories, is_case
from rulesmerged.kept import breach, is_kept, kept_rules
from rulesmerged.left import histories_left
from rulesmerged.merges import fewest_breaking, merged
from rulesmerged.schemas import Schema
from tests import reference, reference_histories
from tests.test_arguments import lists_and_dicts
from tests.things import THINGS, check_errors, new_dice, random_let_copy, random_rows, random_terms, turned_round, wrong_ones

YES = ('yes',)
TABLES = {'shop': ((('at', 'town'),), ()), 'town': ((('id', 'town'),), ())}
SCHEMA = Schema(TABLES)
AT = ('shop', ('has', 'at', 'town', 'id', YES))
BOOK = [AT, ('town', YES)]
DROP = {'shop': ('drop', ()), 'town': ('drop', ())}
KEEP = {'shop': ('drop', ()), 'town': ('keep', ())}
LETS = ([('put', 'shop')], [('drop', 'town')])

# A town is not both busy and shut; shops that are open are at towns that are not shut.
FLAG_TABLES = {'shop': ((('at', 'town'),), ('open',)), 'town': ((('id', 'town'),), ('busy', 'shut'))}
FLAG_SCHEMA = Schema(FLAG_TABLES)
FLAG_BOOK = [('town', ('not', ('and', ('flag', 'busy'), ('flag', 'shut')))),
             ('shop', ('or', ('not', ('flag', 'open')), ('has', 'at', 'town', 'id', ('not', ('flag', 'shut')))))]
TURNED = {'shop': ('drop', ('turned',)), 'town': ('drop', ('turned', 'turned'))}


def check_breach(test, tables, book, ways, lets, rule):
    """What breach tells is a case, by the plain words, and its row is there in the merge and breaks the rule there."""
    schema = Schema(tables)
    base, copies, (table, source, index) = breach(schema, book, ways, lets, rule)
    test.assertTrue(reference_histories.is_case(tables, book, ways, lets, base, copies))
    test.assertIs(is_case(schema, book, ways, lets, base, copies), True)
    history = reference_histories.history_on(tables, book, ways, base, copies, (table, source, index))
    test.assertTrue(reference_histories.breaks(tables, book, history, rule))
    rows = copy_rows(schema, base, merged(schema, ways, base, copies))
    values, _ = (base[table] if source == 0 else copies[source - 1][table][1])[index]
    row = (values, history[1][3])
    test.assertIn(row, rows[table])
    test.assertEqual(table, book[rule][0])
    test.assertFalse(reference.meets(tables, rows, table, row, book[rule][1]))
    found = lists_and_dicts((base, copies))
    test.assertEqual(len({id(each) for each in found}), len(found))
    return table, source


class IsKeptTest(unittest.TestCase):
    def test_shops_at_towns_that_are_dropped(self):
        self.assertIs(is_kept(SCHEMA, BOOK, DROP, LETS), False)
        self.assertIs(is_kept(SCHEMA, BOOK, DROP, LETS[::-1]), False)
        self.assertIs(is_kept(SCHEMA, BOOK, KEEP, LETS), True)
        self.assertIs(is_kept(schema=SCHEMA, book=BOOK, ways=DROP, lets=(LETS[0], LETS[0])), True)
        # Each copy may drop one of two towns, and so the merge both.
        self.assertIs(is_kept(SCHEMA, BOOK, DROP, (LETS[1], LETS[1])), False)
        self.assertIs(is_kept(SCHEMA, BOOK, DROP, (LETS[1], [])), True)
        self.assertIs(is_kept(SCHEMA, BOOK, KEEP, (SCHEMA.changes, SCHEMA.changes)), True)

    def test_nothing_let_and_no_rules(self):
        for book in (BOOK, [], [('shop', ('not', YES))], [AT] * 6):
            self.assertIs(is_kept(SCHEMA, book, DROP, ([], [])), True)
        self.assertIs(is_kept(SCHEMA, [], DROP, (SCHEMA.changes, SCHEMA.changes)), True)
        self.assertEqual(kept_rules(SCHEMA, [], DROP, (SCHEMA.changes, SCHEMA.changes)), [])

    def test_lets_that_differ(self):
        busy, shut = [('on', 'town', 'busy')], [('on', 'town', 'shut')]
        self.assertEqual(kept_rules(FLAG_SCHEMA, FLAG_BOOK, TURNED, (busy, shut)), [1])
        self.assertEqual(kept_rules(FLAG_SCHEMA, FLAG_BOOK, TURNED, (shut, busy)), [1])
        self.assertEqual(kept_rules(FLAG_SCHEMA, FLAG_BOOK, TURNED, (busy, busy)), [0, 1])
        self.assertEqual(kept_rules(FLAG_SCHEMA, FLAG_BOOK, TURNED, (busy + shut, [])), [0, 1])
        self.assertEqual(kept_rules(FLAG_SCHEMA, FLAG_BOOK, TURNED, ([('on', 'shop', 'open')], shut)), [0])
        self.assertEqual(kept_rules(FLAG_SCHEMA, FLAG_BOOK, TURNED, ([('on', 'shop', 'open')], shut + busy)), [0])
        self.assertEqual(kept_rules(FLAG_SCHEMA, FLAG_BOOK, TURNED, (FLAG_SCHEMA.changes, FLAG_SCHEMA.changes)), [])

    def test_ways(self):
        busy, shut = [('on', 'town', 'busy')], [('on', 'town', 'shut')]
        for words, kept in ((('turned', 'turned'), False), (('on', 'on'), False), (('off', 'on'), True), (('turned', 'off'), True)):
            ways = {**TURNED, 'town': ('drop', words)}
            self.assertIs(is_kept(FLAG_SCHEMA, FLAG_BOOK, ways, (busy, shut)), kept, words)


class KeptRulesTest(unittest.TestCase):
    def test_ascending(self):
        book = [('town', YES), AT, ('shop', YES), AT, ('town', ('not', ('has', 'id', 'shop', 'at', ('not', YES))))]
        self.assertEqual(kept_rules(SCHEMA, BOOK, DROP, LETS), [1])
        self.assertEqual(kept_rules(SCHEMA, book, DROP, LETS), [0, 2, 4])
        self.assertEqual(kept_rules(schema=SCHEMA, book=book, ways=turned_round(KEEP), lets=LETS), [0, 1, 2, 3, 4])
        kept_rules(SCHEMA, book, DROP, LETS).clear()
        self.assertEqual(kept_rules(SCHEMA, book, DROP, LETS), [0, 2, 4])

    def test_equal_rules(self):
        self.assertEqual(kept_rules(SCHEMA, [AT, AT, BOOK[1], BOOK[1], AT], DROP, LETS), [2, 3])

    def test_random_terms(self):
        dice, told, told_plainly = new_dice(), [], 0
        for many in [0, 1, 1, 2] * 90:
            tables, book, ways, lets = random_terms(dice, many)
            schema = Schema(tables)
            rules = kept_rules(schema, book, turned_round(ways), lets)
            told.append(is_kept(schema, book, turned_round(ways), lets))
            self.assertIs(told[-1], len(rules) == len(book))
            left = [history for table in tables for history in histories_left(schema, book, ways, lets, table)]
            breaking = [rule for rule in range(len(book)) if any(reference_histories.breaks(tables, book, each, rule) for each in left)]
            self.assertEqual(rules, [rule for rule in range(len(book)) if rule not in breaking])
            for rule in range(len(book)):
                if rule in rules:
                    self.assertIsNone(breach(schema, book, ways, lets, rule))
                else:
                    check_breach(self, tables, book, ways, lets, rule)
            total = sum([len(histories(schema, book, ways, lets, table)) for table in tables])
            if total * 16 ** many < 5000:
                self.assertEqual(rules, reference_histories.kept_rules(tables, book, ways, lets))
                told_plainly += 1
        self.assertGreater(min(told.count(True), told.count(False)), 20)
        self.assertGreater(told_plainly, 100)

    def test_merges_of_random_cases_keep_the_rules_that_are_kept(self):
        dice, many_broken = new_dice(), 0
        for many in [0, 1, 2] * 150:
            tables, book, ways, lets = random_terms(dice, many)
            schema = Schema(tables)
            rules = kept_rules(schema, book, ways, lets)
            for _ in range(20):
                base = random_rows(dice, tables, 3, 1)
                copies = [random_let_copy(dice, tables, base, kinds) for kinds in lets]
                if reference_histories.is_case(tables, book, ways, lets, base, copies):
                    rows = reference_histories.copy_rows(tables, base, reference_histories.merged(tables, ways, base, copies))
                    for rule in range(len(book)):
                        kept = reference_histories.keeps(tables, [book[rule]], rows)
                        many_broken += not kept
                        self.assertTrue(kept or rule not in rules)
        self.assertGreater(many_broken, 3)

    def test_merges_of_more_copies_keep_what_is_kept_for_two(self):
        dice, many_merges = new_dice(), 0
        for many in [0, 1, 2] * 150:
            tables, book, ways, (kinds, _) = random_terms(dice, many)
            schema = Schema(tables)
            if not is_kept(schema, book, ways, (kinds, kinds)):
                continue
            for _ in range(3):
                base = random_rows(dice, tables, 3, 1)
                copies = [random_let_copy(dice, tables, base, kinds) for _ in range(5)]
                kept = [copy for copy in copies if reference_histories.keeps(tables, book, reference_histories.copy_rows(tables, base, copy))]
                if reference_histories.keeps(tables, book, base) and len(kept) > 2:
                    self.assertIsNone(fewest_breaking(schema, book, ways, base, kept))
                    many_merges += 1
        self.assertGreater(many_merges, 50)


class BreachTest(unittest.TestCase):
    def test_rows_put_by_either_copy_and_rows_of_the_base(self):
        self.assertEqual(check_breach(self, TABLES, BOOK, DROP, LETS, 0), ('shop', 1))
        self.assertEqual(check_breach(self, TABLES, BOOK, DROP, LETS[::-1], 0), ('shop', 2))
        self.assertEqual(check_breach(self, TABLES, BOOK, DROP, (LETS[1], LETS[1]), 0), ('shop', 0))
        lets = ([('on', 'town', 'busy')], [('on', 'town', 'shut')])
        self.assertEqual(check_breach(self, FLAG_TABLES, FLAG_BOOK, TURNED, lets, 0), ('town', 0))

    def test_none_for_rules_that_are_kept(self):
        self.assertIsNone(breach(SCHEMA, BOOK, DROP, LETS, 1))
        self.assertIsNone(breach(schema=SCHEMA, book=BOOK, ways=KEEP, lets=LETS, rule=0))

    def test_equal_rules(self):
        for rule in range(3):
            check_breach(self, TABLES, [AT] * 3, DROP, LETS, rule)

    def test_looks_within_looks(self):
        tables = {'man': ((('id', 'man'),), ('old',)), **TABLES, 'town': ((('id', 'town'), ('by', 'man')), ())}
        book = [('shop', ('has', 'at', 'town', 'id', ('has', 'by', 'man', 'id', ('flag', 'old'))))]
        ways = {'man': ('keep', ('turned',)), **DROP}
        for kind, kept in ((('off', 'man', 'old'), []), (('on', 'man', 'old'), [0]), (('drop', 'town'), []), (('drop', 'man'), [0])):
            lets = ([kind, ('put', 'shop')], [kind, ('put', 'town')])
            self.assertEqual(kept_rules(Schema(tables), book, ways, lets), kept)
            if not kept:
                check_breach(self, tables, book, ways, lets, 0)


class ErrorsTest(unittest.TestCase):
    def test_no_such_rule(self):
        for book, ways in ((BOOK, DROP), (BOOK, KEEP), ([], KEEP)):
            for rule in [each for each in THINGS if type(each) is not int or not 0 <= each < len(book)] + [len(book), -2, '0']:
                with self.assertRaises(InvalidNumber):
                    breach(SCHEMA, book, ways, LETS, rule)

    def test_errors_in_their_order_for_any_objects(self):
        dice, terms = new_dice(), [SCHEMA, BOOK, DROP, LETS]
        faults = [
            (1, InvalidBook, dice.sample(wrong_ones(BOOK, lambda each: reference.is_book(TABLES, each)), 70)),
            (2, InvalidWays, dice.sample(wrong_ones(DROP, lambda each: reference_histories.are_ways(TABLES, each)), 70)),
            (3, InvalidLets, dice.sample(wrong_ones(LETS, lambda each: reference_histories.are_lets(TABLES, each)), 70)),
        ]
        check_errors(self, is_kept, terms, faults, dice)
        check_errors(self, kept_rules, terms, faults, dice)
        check_errors(self, breach, terms + [0], faults + [(4, InvalidNumber, [-1, 2, True, False, None, '0', [0], 10 ** 39])], dice)


if __name__ == '__main__':
    unittest.main()
