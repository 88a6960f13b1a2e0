import unittest

from rulesmerged.books import keeps
from rulesmerged.copies import copy_rows
from rulesmerged.errors import InvalidBook, InvalidLets, InvalidRows, InvalidScript, InvalidWays
from rulesmerged.histories import is_case
from rulesmerged.kept import is_kept
from rulesmerged.meeting import always
from rulesmerged.mending import case_unmended, does_mend, done, is_script
from rulesmerged.merges import merged
from rulesmerged.schemas import Schema
from tests import edges, reference, reference_histories, reference_meeting
from tests.edges import AT, NEVER, SELF, YES
from tests.test_arguments import lists_and_dicts
from tests.test_free import FLAG_SCHEMA, FLAG_TABLES, NOT_BOTH, TURNED
from tests.test_kept import BOOK, DROP, KEEP, LETS, SCHEMA, TABLES
from tests.things import (LINKED_ROWS, ROWS, THINGS, check_errors, linked_condition, new_dice, random_deed, random_let_copy,
                          random_rows, random_script, random_terms, turned_round, variations, wrong_ones)
from tests.things import TABLES as MORE_TABLES

MORE_SCHEMA = Schema(MORE_TABLES)
LOOK = BOOK[0][1]
LOST = ('drop', 'shop', ('not', LOOK))
BUSY, SHUT = ('flag', 'busy'), ('flag', 'shut')
BOTH_LETS = ([('on', 'town', 'busy')], [('on', 'town', 'shut')])
SCRIPTS = [
    [], [LOST], [('drop', 'town', YES)], [LOST, LOST], [('drop', 'town', YES), ('drop', 'shop', ('not', YES))],
]
FLAG_SCRIPTS = [
    [('set', 'town', 'busy', ('not', SHUT))], [('set', 'town', 'shut', SHUT), ('set', 'town', 'busy', ('and', BUSY, ('not', SHUT)))],
    [('drop', 'town', ('and', BUSY, SHUT)), ('set', 'town', 'busy', ('has', 'id', 'town', 'of', ('not', BUSY)))],
]
WRONG_SCRIPTS = [
    None, (), {}, 'drop', [()], [('drop',)], [('drop', 'town')], [('drop', 'town', YES)] * 3, (('drop', 'town', YES),), [['drop', 'town', YES]],
    [('drop', 'man', YES)], [('drop', 'shop', ('flag', 'old'))], [('drop', 'town', LOOK)], [('put', 'town', YES)], [('drop', 'town', YES, YES)],
    [('drop', ['town'], YES)], [(None, 'town', YES)], [(['drop'], 'town', YES)], [('drop', None, YES)], [('drop', 'town', None)], [LOST, None],
    [('set', 'town', YES)], [('set', 'town', 'old', YES)], [('set', 'town', None, YES)], [('set', 'town', ('old',), YES)], [LOST, ('drop', 'town', 'yes')],
    [('set', 'shop', 'id', YES)], [('set', 'shop', YES, YES)], [True], [1, 2], ['drop', 'town', YES],
]


def rows_unmended(tables, ways, base, copies, script):
    merge = reference_histories.merged(tables, ways, base, copies)
    return reference_meeting.done(tables, reference_histories.copy_rows(tables, base, merge), script)


def check_unmended(test, tables, book, ways, lets, script):
    """What case_unmended tells is a case, by the plain words, and the rows that the script leaves do not keep the book."""
    schema = Schema(tables)
    told = case_unmended(schema, book, ways, lets, script)
    test.assertEqual([type(told), len(told)], [tuple, 2])
    base, copies = told
    test.assertTrue(reference_histories.is_case(tables, book, ways, lets, base, copies))
    test.assertIs(is_case(schema, book, ways, lets, base, copies), True)
    rows = rows_unmended(tables, ways, base, copies, script)
    test.assertFalse(reference_histories.keeps(tables, book, rows))
    test.assertEqual(rows, done(schema, copy_rows(schema, base, merged(schema, ways, base, copies)), script))
    test.assertFalse(keeps(schema, book, rows))
    test.assertLessEqual(sum(len(base[each]) + len(copies[0][each][1]) + len(copies[1][each][1]) for each in base), 3000)
    found = lists_and_dicts(told)
    test.assertEqual(len({id(each) for each in found}), len(found))
    for each in (base, *copies):
        test.assertEqual(list(each), sorted(tables))


def check_mends(test, tables, book, ways, lets, script):
    """Both functions tell what they must; returns what does_mend tells."""
    schema = Schema(tables)
    told = does_mend(schema, book, turned_round(ways), lets, script)
    test.assertIs(type(told), bool)
    ahead = [(table, reference_meeting.rule_ahead_of(script, table, condition)) for table, condition in book]
    test.assertIs(told, all(always(schema, book, ways, lets, *rule) for rule in ahead))
    if told:
        test.assertIsNone(case_unmended(schema, book, ways, lets, script))
    else:
        check_unmended(test, tables, book, ways, lets, script)
    return told


class ScriptTest(unittest.TestCase):
    def test_scripts_and_others(self):
        for script in SCRIPTS:
            self.assertIs(is_script(SCHEMA, script), True, script)
        for script in FLAG_SCRIPTS[:2]:
            self.assertIs(is_script(FLAG_SCHEMA, script), True, script)
        for thing in WRONG_SCRIPTS:
            self.assertIs(is_script(SCHEMA, thing), False, thing)
        self.assertIs(is_script(schema=SCHEMA, thing=SCRIPTS[1]), True)

    def test_any_objects(self):
        script = [('set', 'town', 'shut', ('has', 'of', 'shop', 'at', ('flag', 'open'))), ('drop', 'shop', ('not', ('flag', 'open')))]
        told = []
        for thing in THINGS + list(variations(script)):
            told.append(is_script(MORE_SCHEMA, thing))
            self.assertIs(told[-1], reference_meeting.is_script(MORE_TABLES, thing), thing)
        self.assertGreater(min(told.count(True), told.count(False)), 5)


class DoneTest(unittest.TestCase):
    def test_drop_all_none_and_some(self):
        rows = {'shop': [((1,), ()), ((2,), ()), ((1,), ())], 'town': [((2,), ()), ((2,), ())]}
        self.assertEqual(done(SCHEMA, rows, [('drop', 'shop', YES)]), {'shop': [], 'town': rows['town']})
        self.assertEqual(done(SCHEMA, rows, [('drop', 'shop', NEVER)]), rows)
        self.assertEqual(done(schema=SCHEMA, rows=rows, script=[]), rows)
        self.assertEqual(done(SCHEMA, rows, [LOST]), {'shop': [((2,), ())], 'town': rows['town']})
        self.assertEqual(done(SCHEMA, rows, [('drop', 'shop', LOOK), LOST]), {'shop': [], 'town': rows['town']})

    def test_the_second_deed_sees_what_the_first_one_left(self):
        rows = {'shop': [((1,), ()), ((2,), ())], 'town': [((2,), ())]}
        self.assertEqual(done(SCHEMA, rows, [('drop', 'town', YES), LOST]), {'shop': [], 'town': []})
        self.assertEqual(done(SCHEMA, rows, [LOST, ('drop', 'town', YES)]), {'shop': [((2,), ())], 'town': []})
        unshut = [('set', 'town', 'shut', ('not', SHUT)), ('drop', 'town', ('not', SHUT))]
        rows = {'town': [((1, 1), (True, True)), ((2, 2), (False, False))]}
        self.assertEqual(done(FLAG_SCHEMA, rows, unshut), {'town': [((2, 2), (False, True))]})
        self.assertEqual(done(FLAG_SCHEMA, rows, unshut[::-1]), {'town': [((1, 1), (True, False))]})

    def test_it_is_done_to_all_rows_at_once(self):
        # Each town but the last has one behind it; none is dropped because another one was dropped before.
        tables = {'town': ((('id', 'town'), ('of', 'town')), ('old',))}
        schema, rows = Schema(tables), {'town': [((value, value + 1), (False,)) for value in range(5)]}
        self.assertEqual(done(schema, rows, [('drop', 'town', ('has', 'of', 'town', 'id', YES))]), {'town': [((4, 5), (False,))]})
        self.assertEqual(done(schema, rows, [('drop', 'town', ('not', ('has', 'of', 'town', 'id', YES)))]), {'town': rows['town'][:4]})
        marked = ('set', 'town', 'old', ('has', 'of', 'town', 'id', ('not', ('flag', 'old'))))
        self.assertEqual([flags for _, flags in done(schema, rows, [marked])['town']], [(True,)] * 4 + [(False,)])
        self.assertEqual([flags for _, flags in done(schema, rows, [marked, marked])['town']], [(False,)] * 3 + [(True,), (False,)])

    def test_set_sets_and_unsets(self):
        rows = {'town': [((1, 2), flags) for flags in reference_histories.all_flags(FLAG_TABLES, 'town')]}
        self.assertEqual([flags for _, flags in done(FLAG_SCHEMA, rows, [('set', 'town', 'busy', SHUT)])['town']],
                         [(False, False), (True, True), (False, False), (True, True)])
        self.assertEqual([flags for _, flags in done(FLAG_SCHEMA, rows, [('set', 'town', 'shut', NEVER)])['town']],
                         [(False, False), (False, False), (True, False), (True, False)])

    def test_random_scripts_and_rows(self):
        dice, many = new_dice(), {}
        for _ in range(600):
            tables, _, _, _ = random_terms(dice, 0)
            script = [random_deed(dice, tables) for _ in range(dice.randint(0, 2))]
            rows = random_rows(dice, tables, 4, 2)
            told = done(Schema(tables), turned_round(rows), script)
            self.assertEqual(told, reference_meeting.done(tables, rows, script))
            self.assertEqual(list(told), sorted(tables))
            many[len(script), told == rows] = many.get((len(script), told == rows), 0) + 1
        self.assertGreater(min(many[1, False], many[1, True], many[2, False]), 50)

    def test_many_rows(self):
        script = [('drop', 'shop', ('not', linked_condition())), ('set', 'town', 'old', ('has', 'id', 'shop', 'at', YES))]
        self.assertEqual(done(MORE_SCHEMA, LINKED_ROWS, script), {'man': [], 'shop': [], 'town': [((7, 7), (False, False))] * 1500})
        told = done(MORE_SCHEMA, LINKED_ROWS, [script[1], ('drop', 'shop', linked_condition())])
        self.assertEqual(told, {**LINKED_ROWS, 'town': [((7, 7), (True, False))] * 1500})

    def test_new_each_time(self):
        rows = {'shop': [((1,), ())], 'town': []}
        told = done(SCHEMA, rows, [])
        told['shop'].clear()
        self.assertEqual(rows, {'shop': [((1,), ())], 'town': []})
        self.assertEqual(done(SCHEMA, rows, []), rows)


class DoesMendTest(unittest.TestCase):
    def test_lost_shops(self):
        for script, mends in (([LOST], True), ([], False), ([('drop', 'shop', YES)], True), ([('drop', 'shop', NEVER)], False),
                              ([('drop', 'town', YES)], False), ([('drop', 'town', YES), LOST], True), ([LOST, ('drop', 'town', YES)], False),
                              ([LOST, ('drop', 'town', NEVER)], True), ([LOST, LOST], True), ([('drop', 'shop', LOOK)], False)):
            self.assertIs(check_mends(self, TABLES, BOOK, DROP, LETS, script), mends, script)
            self.assertIs(does_mend(schema=SCHEMA, book=BOOK, ways=DROP, lets=LETS, script=script), mends)
            found = case_unmended(schema=SCHEMA, book=BOOK, ways=DROP, lets=LETS, script=script)
            self.assertIs(found is None, mends)

    def test_flags(self):
        for script, mends in ((FLAG_SCRIPTS[0], False), (FLAG_SCRIPTS[1], True), ([('set', 'town', 'busy', NEVER)], True), ([('set', 'town', 'busy', BUSY)], False),
                              ([('drop', 'town', ('and', BUSY, SHUT))], True), ([('drop', 'town', BUSY), ('set', 'town', 'busy', YES)], False),
                              ([('set', 'town', 'busy', ('not', SHUT)), ('set', 'town', 'shut', ('not', BUSY))], True),
                              ([('set', 'town', 'busy', SHUT), ('drop', 'town', BUSY)], True), ([('drop', 'town', BUSY), ('set', 'town', 'busy', SHUT)], False)):
            told = check_mends(self, FLAG_TABLES, [NOT_BOTH], TURNED, BOTH_LETS, script)
            if script != FLAG_SCRIPTS[0]:
                self.assertIs(told, mends, script)
        # Busy where not shut: then no town is both.
        self.assertIs(does_mend(FLAG_SCHEMA, [NOT_BOTH], TURNED, BOTH_LETS, FLAG_SCRIPTS[0]), True)

    def test_a_script_may_break_what_is_kept(self):
        self.assertIs(is_kept(SCHEMA, BOOK, KEEP, LETS), True)
        self.assertIs(check_mends(self, TABLES, BOOK, KEEP, LETS, []), True)
        self.assertIs(check_mends(self, TABLES, BOOK, KEEP, LETS, [('drop', 'town', YES)]), False)
        self.assertIs(check_mends(self, TABLES, BOOK, KEEP, ([], []), [('drop', 'town', NEVER), ('drop', 'town', YES)]), False)
        # No row keeps the book, so there is none that could be left.
        self.assertIs(check_mends(self, TABLES, [('shop', NEVER), ('town', NEVER)], DROP, LETS, [('drop', 'town', YES)]), True)

    def test_no_deeds_mend_what_is_kept(self):
        dice, told = new_dice(), []
        for many in [0, 1, 2] * 40:
            tables, book, ways, lets = random_terms(dice, many)
            told.append(check_mends(self, tables, book, ways, lets, []))
            self.assertIs(told[-1], is_kept(Schema(tables), book, ways, lets))
        self.assertGreater(min(told.count(True), told.count(False)), 20)

    def test_what_the_first_deed_changes_counts_for_the_second_one(self):
        schema, ways = Schema(edges.SHOPS), {'shop': ('drop', ('on',)), 'town': ('drop', ('turned',))}
        lets = ([('put', 'shop')], [('drop', 'town'), ('off', 'town', 'old')])
        lost, old, none = ('drop', 'shop', ('not', AT)), ('set', 'town', 'old', YES), ('set', 'town', 'old', NEVER)
        for script, mends in (([lost], True), ([old], False), ([old, lost], True), ([lost, old], True), ([lost, none], False), ([none, lost], True),
                              ([none, ('drop', 'shop', AT)], False), ([old, ('drop', 'shop', AT)], False), ([none, ('drop', 'shop', YES)], True)):
            self.assertIs(check_mends(self, edges.SHOPS, [('shop', AT)], ways, lets, script), mends, script)
        self.assertIs(does_mend(schema, [], ways, lets, [none]), True)

    def test_edges(self):
        dice, told = new_dice(), []
        for _, tables, book in edges.BOOKS:
            for ways in edges.all_ways_of(tables, dice):
                lets = tuple(dice.choice(edges.kinds_of(tables, dice, 6)) for _ in range(2))
                table, condition = dice.choice(book or [(dice.choice(list(tables)), YES)])
                deeds = [('drop', table, ('not', condition)), ('drop', table, YES), ('drop', dice.choice(list(tables)), NEVER)]
                deeds += [('set', table, flag, dice.choice([YES, NEVER, ('not', ('flag', flag))])) for flag in tables[table][1]]
                for many in (0, 1, 2):
                    told.append(check_mends(self, tables, book, ways, lets, dice.sample(deeds, many)))
        self.assertGreater(min(told.count(True), told.count(False)), 40)

    def test_looks_at_the_own_table_in_both_deeds(self):
        tables, ways = edges.PLAIN, {'town': ('drop', ())}
        script = [('drop', 'town', ('not', SELF))] * 2
        lets = ([('drop', 'town')], [('put', 'town')])
        self.assertIs(check_mends(self, tables, [('town', SELF)], ways, lets, script), False)
        self.assertIs(check_mends(self, tables, [('town', SELF)], ways, lets, script[:1]), False)
        self.assertIs(check_mends(self, tables, [('town', ('not', SELF))], ways, (lets[1], lets[1]), script[:1]), False)
        self.assertIs(check_mends(self, tables, [('town', ('not', SELF))], ways, (lets[1], lets[1]), [('drop', 'town', SELF)]), True)

    def test_random_scripts(self):
        dice, told, many_plain = new_dice(), {}, 0
        for at in range(900):
            tables, book, ways, lets = random_terms(dice, dice.choice([0, 1, 1, 2]))
            script = random_script(dice, tables, book)
            key = (len(script), check_mends(self, tables, book, ways, lets, script))
            told[key] = told.get(key, 0) + 1
            ahead = [(table, reference_meeting.rule_ahead_of(script, table, condition)) for table, condition in book]
            looks = reference_histories.looks(book + ahead)
            if len(looks) < 2 and len(tables) < 3 and many_plain < 60:
                self.assertIs(key[1], all(reference_meeting.always(tables, book, ways, lets, *rule) for rule in ahead))
                many_plain += 1
        self.assertEqual(many_plain, 60)
        self.assertGreater(min(told[many, mends] for many in (0, 1, 2) for mends in (True, False)), 20)

    def test_merges_of_random_cases_are_mended(self):
        dice, many_cases = new_dice(), {}
        for _ in range(500):
            tables, book, ways, lets = random_terms(dice, dice.choice([0, 1, 1, 2]))
            script = random_script(dice, tables, book)
            mends = does_mend(Schema(tables), book, ways, lets, script)
            for _ in range(6):
                base = random_rows(dice, tables, 3, 1)
                copies = [random_let_copy(dice, tables, base, kinds) for kinds in lets]
                if reference_histories.is_case(tables, book, ways, lets, base, copies):
                    kept = reference_histories.keeps(tables, book, rows_unmended(tables, ways, base, copies, script))
                    self.assertTrue(kept or not mends)
                    many_cases[mends, kept] = many_cases.get((mends, kept), 0) + 1
        self.assertGreater(min(many_cases[True, True], many_cases[False, False]), 20)


class ErrorsTest(unittest.TestCase):
    def test_wrong_scripts(self):
        rows = {'shop': [], 'town': []}
        for script in WRONG_SCRIPTS:
            for call, arguments in ((done, [SCHEMA, rows]), (does_mend, [SCHEMA, BOOK, DROP, LETS]), (case_unmended, [SCHEMA, BOOK, DROP, LETS])):
                with self.assertRaises(InvalidScript):
                    call(*arguments, script)

    def test_errors_in_their_order_for_any_objects(self):
        dice = new_dice()
        scripts = wrong_ones([LOST, ('drop', 'town', YES)], lambda each: reference_meeting.is_script(TABLES, each)) + WRONG_SCRIPTS
        faults = [
            (1, InvalidBook, dice.sample(wrong_ones(BOOK, lambda each: reference.is_book(TABLES, each)), 70)),
            (2, InvalidWays, dice.sample(wrong_ones(DROP, lambda each: reference_histories.are_ways(TABLES, each)), 70)),
            (3, InvalidLets, dice.sample(wrong_ones(LETS, lambda each: reference_histories.are_lets(TABLES, each)), 70)),
            (4, InvalidScript, scripts),
        ]
        check_errors(self, does_mend, [SCHEMA, BOOK, DROP, LETS, [LOST]], faults, dice)
        check_errors(self, case_unmended, [SCHEMA, BOOK, DROP, LETS, [LOST]], faults, dice)
        script = [('set', 'town', 'shut', ('has', 'of', 'shop', 'at', ('flag', 'open')))]
        check_errors(self, done, [MORE_SCHEMA, ROWS, script], [
            (1, InvalidRows, wrong_ones(ROWS, lambda each: reference.are_rows(MORE_TABLES, each))),
            (2, InvalidScript, wrong_ones(script, lambda each: reference_meeting.is_script(MORE_TABLES, each)))], dice)


if __name__ == '__main__':
    unittest.main()
