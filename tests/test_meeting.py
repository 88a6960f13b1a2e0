import unittest

from rulesmerged.copies import copy_rows
from rulesmerged.errors import InvalidBook, InvalidCondition, InvalidLets, InvalidWays, UnknownTable
from rulesmerged.histories import histories, is_case
from rulesmerged.kept import is_kept, kept_rules
from rulesmerged.left import histories_left
from rulesmerged.meeting import always, case_against
from rulesmerged.merges import merged
from rulesmerged.schemas import Schema
from tests import edges, reference, reference_histories, reference_meeting
from tests.edges import NEVER, YES
from tests.test_arguments import lists_and_dicts
from tests.test_free import FLAG_SCHEMA, NOT_BOTH
from tests.test_kept import BOOK, DROP, KEEP, LETS, SCHEMA, TABLES
from tests.things import (THINGS, check_errors, new_dice, random_asked, random_condition, random_let_copy, random_rows,
                          turned_round, variations, wrong_ones)

LOOK = BOOK[0][1]
BUSY, SHUT = ('on', 'town', 'busy'), ('on', 'town', 'shut')


def check_against(test, tables, *asked):
    """What case_against tells is a case, by the plain words, and its row is in the merge and does not meet the condition."""
    schema, (book, ways, lets, table, condition) = Schema(tables), asked
    base, copies, (own, source, index) = case_against(schema, *asked)
    test.assertEqual(own, table)
    test.assertTrue(reference_histories.is_case(tables, book, ways, lets, base, copies))
    test.assertIs(is_case(schema, book, ways, lets, base, copies), True)
    merge = reference_histories.merged(tables, ways, base, copies)
    if source == 0:
        values, state = base[table][index][0], merge[table][0][index]
    else:
        values, state = copies[source - 1][table][1][index]
    test.assertIsNotNone(state)
    rows = reference_histories.copy_rows(tables, base, merge)
    test.assertEqual(rows, copy_rows(schema, base, merged(schema, ways, base, copies)))
    test.assertIn((values, state), rows[table])
    test.assertFalse(reference.meets(tables, rows, table, (values, state), condition))
    test.assertLessEqual(sum(len(base[each]) + len(copies[0][each][1]) + len(copies[1][each][1]) for each in base), 3000)
    found = lists_and_dicts((base, copies))
    test.assertEqual(len({id(each) for each in found}), len(found))
    for each in (base, *copies):
        test.assertEqual(list(each), sorted(tables))
    return source


def check_asked(test, tables, book, ways, lets, table, condition):
    """Both functions tell what they must; returns what always tells."""
    schema, terms = Schema(tables), (book, turned_round(ways), lets, table, condition)
    told = always(schema, *terms)
    test.assertIs(type(told), bool)
    asked = reference_meeting.asked_of(book, table, condition)
    left = histories_left(schema, asked, ways, lets, table) if len(asked) <= 6 else None
    if left is not None:
        broken = [each for each in left if reference_meeting.breaks_there(tables, asked, each, condition)]
        test.assertIs(told, broken == [])
    if told:
        test.assertIsNone(case_against(schema, *terms))
    else:
        check_against(test, tables, *terms)
    return told


class AlwaysTest(unittest.TestCase):
    def test_towns_that_are_both(self):
        both = NOT_BOTH[1]
        for lets, words, told in (
                (([BUSY], [SHUT]), ('turned', 'turned'), False), (([BUSY], [SHUT]), ('off', 'turned'), True),
                (([BUSY, SHUT], []), ('turned', 'turned'), True), (([SHUT], [BUSY]), ('on', 'on'), False)):
            ways = {'town': ('drop', words)}
            self.assertIs(always(FLAG_SCHEMA, [NOT_BOTH], ways, lets, 'town', both), told, (lets, words))
            self.assertIs(always(schema=FLAG_SCHEMA, book=[NOT_BOTH], ways=ways, lets=lets, table='town', condition=both), told)
            found = case_against(schema=FLAG_SCHEMA, book=[NOT_BOTH], ways=ways, lets=lets, table='town', condition=both)
            self.assertIs(found is None, told)
            # Without the rule a town may be both from the beginning.
            self.assertIs(always(FLAG_SCHEMA, [], ways, lets, 'town', both), False)

    def test_conditions_that_are_no_rules(self):
        # Each shop is at a town; so there is no shop, where there is no town; and towns need no shops.
        self.assertIs(always(SCHEMA, BOOK, DROP, LETS, 'shop', LOOK), False)
        self.assertIs(always(SCHEMA, BOOK, KEEP, LETS, 'shop', LOOK), True)
        self.assertIs(always(SCHEMA, BOOK, KEEP, LETS, 'town', ('has', 'id', 'shop', 'at', YES)), False)
        self.assertIs(always(SCHEMA, BOOK, KEEP, LETS, 'town', ('or', ('not', ('has', 'id', 'shop', 'at', YES)), ('has', 'id', 'shop', 'at', LOOK))), True)
        self.assertIs(always(SCHEMA, BOOK, DROP, (LETS[0], LETS[0]), 'shop', ('has', 'at', 'town', 'id', ('has', 'id', 'shop', 'at', YES))), True)
        self.assertIs(always(SCHEMA, [], KEEP, ([], []), 'shop', LOOK), False)

    def test_rows_that_are_put_and_those_of_the_base(self):
        tables = {'town': ((('id', 'town'),), ('old',))}
        schema, ways, fresh = Schema(tables), {'town': ('drop', ('turned',))}, ('not', ('flag', 'old'))
        for book, lets, source in (([], ([], []), 0), ([('town', NEVER)], ([('put', 'town')],) * 2, None),
                                   ([('town', fresh)], ([('put', 'town')],) * 2, None)):
            self.assertEqual(always(schema, book, ways, lets, 'town', fresh), source is None)
        # What rows find in the merge is not what they find in the copies: here each town has its own number in these.
        alone = ('or', ('flag', 'old'), ('not', ('has', 'id', 'town', 'id', ('flag', 'old'))))
        self.assertIs(always(schema, [('town', alone)], ways, ([('put', 'town')], []), 'town', alone), True)
        self.assertIs(always(schema, [('town', alone)], ways, ([('put', 'town')],) * 2, 'town', alone), False)
        sources = {check_against(self, tables, [('town', alone)], ways, lets, 'town', alone)
                   for lets in ((([('put', 'town')],) * 2), ([('on', 'town', 'old')], [('put', 'town')]))}
        self.assertTrue(sources <= {0, 1, 2} and sources)

    def test_all_rows_meet_yes_and_none_meets_its_contrary(self):
        dice = new_dice()
        for name, tables, book in edges.BOOKS:
            for ways in edges.all_ways_of(tables, dice):
                for lets in (([], []), (reference.changes(tables),) * 2):
                    for table in tables:
                        self.assertIs(check_asked(self, tables, book, ways, lets, table, YES), True)
                        # No row may be in the merge if no row keeps the rules.
                        nothing = (table, NEVER) in book or (name, table) == ('no town is possible', 'town')
                        self.assertIs(check_asked(self, tables, book, ways, lets, table, NEVER), nothing, (name, table))

    def test_edges(self):
        dice, told = new_dice(), []
        for _, tables, book in edges.BOOKS:
            for ways in edges.all_ways_of(tables, dice):
                lets = tuple(dice.choice(edges.kinds_of(tables, dice, 6)) for _ in range(2))
                for table, condition in book:
                    told.append(check_asked(self, tables, book, ways, lets, table, condition))
                table = dice.choice(list(tables))
                told.append(check_asked(self, tables, book, ways, lets, table, random_condition(dice, tables, table, 1)))
        self.assertGreater(min(told.count(True), told.count(False)), 30)

    def test_rules_that_are_kept_are_always_met(self):
        dice, seen = new_dice(), []
        for _ in range(150):
            tables, book, ways, lets, _, _ = random_asked(dice)
            schema = Schema(tables)
            rules = [rule for rule, (table, condition) in enumerate(book) if always(schema, book, ways, lets, table, condition)]
            self.assertEqual(rules, kept_rules(schema, book, ways, lets))
            seen.append(len(rules) == len(book))
        self.assertGreater(min(seen.count(True), seen.count(False)), 10)

    def test_random_conditions(self):
        dice, told, many_plain = new_dice(), [], 0
        for _ in range(500):
            tables, book, ways, lets, table, condition = random_asked(dice)
            told.append(check_asked(self, tables, book, ways, lets, table, condition))
            asked = reference_meeting.asked_of(book, table, condition)
            total = sum([len(histories(Schema(tables), asked, ways, lets, own)) for own in tables])
            if total * 16 ** len(reference_histories.looks(asked)) < 4000:
                self.assertEqual(told[-1], reference_meeting.always(tables, book, ways, lets, table, condition))
                many_plain += 1
        self.assertGreater(min(told.count(True), told.count(False)), 60)
        self.assertGreater(many_plain, 100)


class FactsTest(unittest.TestCase):
    def test_rows_of_random_merges_meet_what_is_always_met(self):
        dice, many_rows = new_dice(), 0
        for _ in range(400):
            tables, book, ways, lets, table, condition = random_asked(dice)
            if always(Schema(tables), book, ways, lets, table, condition):
                for _ in range(8):
                    base = random_rows(dice, tables, 3, 1)
                    copies = [random_let_copy(dice, tables, base, kinds) for kinds in lets]
                    if reference_histories.is_case(tables, book, ways, lets, base, copies):
                        rows = reference_histories.copy_rows(tables, base, reference_histories.merged(tables, ways, base, copies))
                        self.assertEqual(reference_meeting.rows_not_meeting(tables, rows, table, condition), [])
                        many_rows += len(rows[table])
        self.assertGreater(many_rows, 200)

    def test_merges_of_any_number_of_copies_meet_it_too(self):
        dice, many_rows = new_dice(), 0
        for _ in range(600):
            tables, book, ways, (kinds, _), table, condition = random_asked(dice)
            schema, lets = Schema(tables), (kinds, kinds)
            if not is_kept(schema, book, ways, lets) or not always(schema, book, ways, lets, table, condition):
                continue
            for _ in range(4):
                base = random_rows(dice, tables, 3, 1)
                copies = [random_let_copy(dice, tables, base, kinds) for _ in range(5)]
                kept = [copy for copy in copies if reference_histories.keeps(tables, book, reference_histories.copy_rows(tables, base, copy))]
                if reference_histories.keeps(tables, book, base) and len(kept) > 2:
                    rows = reference_histories.copy_rows(tables, base, reference_histories.merged(tables, ways, base, kept))
                    self.assertEqual(reference_meeting.rows_not_meeting(tables, rows, table, condition), [])
                    many_rows += len(rows[table])
        self.assertGreater(many_rows, 100)

    def test_what_is_met_with_some_kinds_is_met_with_fewer(self):
        dice, many = new_dice(), 0
        for _ in range(200):
            tables, book, ways, lets, table, condition = random_asked(dice)
            if always(Schema(tables), book, ways, lets, table, condition):
                fewer = tuple([kind for kind in kinds if dice.random() < 0.6] for kinds in lets)
                self.assertIs(always(Schema(tables), book, ways, fewer, table, condition), True)
                many += fewer != lets
        self.assertGreater(many, 20)


class ErrorsTest(unittest.TestCase):
    def test_conditions_of_another_table_and_none(self):
        for table, condition in (('town', LOOK), ('shop', ('flag', 'old')), ('shop', ['yes']), ('shop', 'yes'), ('shop', ('not', YES, YES)),
                                 ('shop', None), ('shop', ('has', 'at', 'town', 'at', YES)), ('shop', ('has', 'at', 'town', 'id', LOOK))):
            for call in (always, case_against):
                with self.assertRaises(InvalidCondition):
                    call(SCHEMA, BOOK, DROP, LETS, table, condition)
        with self.assertRaises(UnknownTable):
            always(SCHEMA, BOOK, DROP, LETS, 'man', YES)

    def test_errors_in_their_order_for_any_objects(self):
        dice, asked = new_dice(), [SCHEMA, BOOK, DROP, LETS, 'shop', LOOK]
        faults = [
            (1, InvalidBook, dice.sample(wrong_ones(BOOK, lambda each: reference.is_book(TABLES, each)), 70)),
            (2, InvalidWays, dice.sample(wrong_ones(DROP, lambda each: reference_histories.are_ways(TABLES, each)), 70)),
            (3, InvalidLets, dice.sample(wrong_ones(LETS, lambda each: reference_histories.are_lets(TABLES, each)), 70)),
            (4, UnknownTable, [each for each in THINGS if not isinstance(each, str) or each not in TABLES]),
            (5, InvalidCondition, [each for each in THINGS + list(variations(LOOK)) if not reference.is_condition(TABLES, 'shop', each)]),
        ]
        check_errors(self, always, asked, faults, dice)
        check_errors(self, case_against, asked, faults, dice)


if __name__ == '__main__':
    unittest.main()
