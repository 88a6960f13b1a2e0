import copy as copying
import unittest

from rulesmerged.errors import InvalidBook, InvalidCase, InvalidHistory, InvalidLets, InvalidMeeting, InvalidNumber
from rulesmerged.errors import InvalidWays, UnknownColumn, UnknownRow, UnknownTable
from rulesmerged.histories import fits, gives, histories, history_on, is_case, is_history, is_meeting
from rulesmerged.looks import looks, looks_through
from rulesmerged.schemas import Schema
from tests import reference, reference_histories
from tests.things import THINGS, check_errors, new_dice, random_let_copy, random_rows, random_terms, turned_round, variations
from tests.things import wrong_ones

YES = ('yes',)
ON, OFF = (True,), (False,)
T, F = (True,), (False,)

# One table with one flag.
FLAGGED = {'town': ((('id', 'town'),), ('old',))}
FLAGGED_SCHEMA = Schema(FLAGGED)

# Shops stand at towns, and say whose they are; towns are of towns.
TABLES = {
    'man': ((('id', 'man'),), ()),
    'shop': ((('at', 'town'), ('by', 'man')), ('open',)),
    'town': ((('id', 'town'), ('of', 'town')), ()),
}
SCHEMA = Schema(TABLES)
INNER = ('has', 'of', 'town', 'id', YES)
BOOK = [('shop', ('or', ('not', ('flag', 'open')), ('has', 'at', 'town', 'id', INNER)))]
WAYS = {'man': ('keep', ()), 'shop': ('drop', ('turned',)), 'town': ('drop', ())}
LETS = ([('put', 'shop'), ('on', 'shop', 'open')], [('drop', 'town'), ('put', 'town')])
SHOP = ('shop', (OFF, ON, OFF, ON), (F, T, F, T))
PUT_TOWN = ('town', (None, None, (), ()), (None, None, T, F))

BASE = {'man': [], 'shop': [((1, 7), OFF)], 'town': [((1, 2), ()), ((2, 2), ())]}
COPIES = [
    {'man': ([], []), 'shop': ([ON], [((2, 7), OFF)]), 'town': ([(), ()], [])},
    {'man': ([], []), 'shop': ([OFF], []), 'town': ([(), None], [((3, 1), ())])},
]


def town_histories(ways, first, second, book=()):
    return histories(FLAGGED_SCHEMA, list(book), {'town': ways}, (first, second), 'town')


def courses(ways, first, second, book=()):
    told = town_histories(ways, first, second, book)
    return [states for _, states, _ in told]


class HistoriesTest(unittest.TestCase):
    def test_nothing_is_let(self):
        for drop in ('drop', 'keep'):
            for word in ('turned', 'on', 'off'):
                self.assertEqual(town_histories((drop, (word,)), [], []), [
                    ('town', (OFF, OFF, OFF, OFF), ((), (), (), ())), ('town', (ON, ON, ON, ON), ((), (), (), ()))])

    def test_puts(self):
        put = [('put', 'town')]
        same = [(OFF,) * 4, (ON,) * 4]
        self.assertEqual(courses(('drop', ('on',)), put, []), [(None, OFF, None, OFF), (None, ON, None, ON)] + same)
        self.assertEqual(courses(('keep', ('off',)), [], put), [(None, None, OFF, OFF), (None, None, ON, ON)] + same)
        self.assertEqual(courses(('drop', ('off',)), put, put), [
            (None, None, OFF, OFF), (None, None, ON, ON), (None, OFF, None, OFF), (None, ON, None, ON)] + same)

    def test_drops(self):
        drop = [('drop', 'town')]
        self.assertEqual(courses(('drop', ('turned',)), drop, []), [
            (OFF, None, OFF, None), (OFF,) * 4, (ON, None, ON, None), (ON,) * 4])
        self.assertEqual(courses(('keep', ('turned',)), [], drop), [
            (OFF, OFF, None, OFF), (OFF,) * 4, (ON, ON, None, ON), (ON,) * 4])
        for way, end in (('drop', None), ('keep', OFF)):
            self.assertEqual(courses((way, ('on',)), drop, drop)[:4], [
                (OFF, None, None, None), (OFF, None, OFF, end), (OFF, OFF, None, end), (OFF,) * 4])

    def test_turns(self):
        on, off = [('on', 'town', 'old')], [('off', 'town', 'old')]
        self.assertEqual(courses(('drop', ('turned',)), on, []), [(OFF,) * 4, (OFF, ON, OFF, ON), (ON,) * 4])
        self.assertEqual(courses(('drop', ('turned',)), on, off), [
            (OFF,) * 4, (OFF, ON, OFF, ON), (ON, ON, OFF, OFF), (ON,) * 4])
        self.assertEqual(courses(('drop', ('on',)), on, off), [(OFF,) * 4, (OFF, ON, OFF, ON), (ON, ON, OFF, ON), (ON,) * 4])
        self.assertEqual(courses(('drop', ('off',)), on, off), [
            (OFF,) * 4, (OFF, ON, OFF, OFF), (ON, ON, OFF, OFF), (ON,) * 4])
        self.assertEqual(courses(('keep', ('off',)), on, [('drop', 'town')])[:4], [
            (OFF, OFF, None, OFF), (OFF,) * 4, (OFF, ON, None, ON), (OFF, ON, OFF, OFF)])

    def test_rules_hold_in_versions_ahead_of_the_merge(self):
        on, off = [('on', 'town', 'old')], [('off', 'town', 'old')]
        old, new = [('town', ('flag', 'old'))], [('town', ('not', ('flag', 'old')))]
        self.assertEqual(courses(('drop', ('off',)), on, off, old), [(ON,) * 4])
        self.assertEqual(courses(('drop', ('on',)), on, off, new), [(OFF,) * 4])
        self.assertEqual(courses(('drop', ('off',)), off, [('drop', 'town'), ('put', 'town')], old), [
            (None, None, ON, ON), (ON, ON, None, None), (ON,) * 4])
        # The merge alone may break a rule: by itself with two flags, each turned in another copy.
        schema = Schema({'town': ((('id', 'town'),), ('busy', 'shut'))})
        book = [('town', ('not', ('and', ('flag', 'busy'), ('flag', 'shut'))))]
        told = histories(schema, book, {'town': ('drop', ('turned', 'turned'))}, (
            [('on', 'town', 'busy')], [('on', 'town', 'shut')]), 'town')
        self.assertIn(('town', ((False, False), (True, False), (False, True), (True, True)), ((), (), (), ())), told)
        self.assertNotIn((True, True), [state for _, states, _ in told for state in states[:3]])

    def test_answers(self):
        told = histories(SCHEMA, BOOK, WAYS, LETS, 'shop')
        self.assertEqual(told[:4], [('shop', (None, OFF, None, OFF), (None, first, None, last)) for first in (F, T) for last in (F, T)])
        self.assertEqual(told[4:6], [('shop', (None, ON, None, ON), (None, T, None, last)) for last in (F, T)])
        self.assertIn(SHOP, told)
        self.assertNotIn(('shop', (OFF, ON, OFF, ON), (F, F, F, T)), told)
        self.assertEqual(len(told), 6 + 16 + 8 + 2)
        self.assertEqual(histories(SCHEMA, BOOK, WAYS, LETS, 'man'), [('man', ((), (), (), ()), ((), (), (), ()))])

    def test_two_looks_of_a_table(self):
        tables = {'town': ((('id', 'town'), ('of', 'town')), ())}
        book = [('town', ('or', ('has', 'id', 'town', 'of', YES), ('not', ('has', 'of', 'town', 'id', YES))))]
        told = histories(Schema(tables), book, {'town': ('drop', ())}, ([], []), 'town')
        self.assertEqual(len(told), 3 * 3 * 3 * 4)
        self.assertEqual(told[0], ('town', ((),) * 4, ((False, False),) * 4))
        self.assertEqual(told[1], ('town', ((),) * 4, ((False, False),) * 3 + ((False, True),)))
        self.assertEqual({answers[0] for _, _, answers in told}, {(False, False), (True, False), (True, True)})

    def test_rules_that_no_row_keeps(self):
        self.assertEqual(town_histories(('drop', ('on',)), FLAGGED_SCHEMA.changes, [], [('town', ('not', YES))]), [])

    def test_random_terms(self):
        dice = new_dice()
        for many in [0, 1, 2] * 60:
            tables, book, ways, lets = random_terms(dice, many)
            for table in tables:
                told = histories(Schema(tables), book, turned_round(ways), lets, table)
                self.assertEqual(told, sorted(reference_histories.histories(tables, book, ways, lets, table), key=reference_histories.order))
                self.assertEqual(len(set(told)), len(told))

    def test_by_name_and_new(self):
        told = histories(schema=SCHEMA, book=BOOK, ways=WAYS, lets=LETS, table='shop')
        histories(SCHEMA, BOOK, WAYS, LETS, 'shop').clear()
        self.assertEqual(histories(SCHEMA, BOOK, WAYS, LETS, 'shop'), told)


class IsHistoryTest(unittest.TestCase):
    def test_just_those_of_histories(self):
        told = []
        for table in TABLES:
            for history in histories(SCHEMA, BOOK, WAYS, LETS, table):
                self.assertIs(is_history(SCHEMA, BOOK, WAYS, LETS, history), True)
        for thing in THINGS + list(variations(SHOP)) + list(variations(PUT_TOWN)):
            told.append(is_history(SCHEMA, BOOK, WAYS, LETS, thing))
            self.assertIs(told[-1], reference_histories.is_history(TABLES, BOOK, WAYS, LETS, thing), thing)
        self.assertGreater(told.count(True), 3)
        self.assertGreater(told.count(False), 300)

    def test_wrong_states_and_answers(self):
        self.assertIs(is_history(schema=SCHEMA, book=BOOK, ways=WAYS, lets=LETS, thing=SHOP), True)
        self.assertIs(is_history(SCHEMA, BOOK, WAYS, LETS, PUT_TOWN), True)
        for thing in (('shop', (OFF, ON, OFF, OFF), SHOP[2]), ('shop', (OFF, ON, ON, ON), (F, T, T, T)),
                      ('shop', (ON, OFF, ON, OFF), (T, F, T, F)), ('shop', (OFF, ON, OFF, ON), (F, F, F, T)),
                      ('shop', (OFF, ON, OFF, ON), (F, T, F, None)), ('shop', (OFF, ON, OFF, None), (F, T, F, None)),
                      ('shop', (OFF, ON, None, None), (F, T, None, None)), ('shop', (None,) * 4, (None,) * 4),
                      ('shop', (None, None, OFF, OFF), (None, None, F, F)), ('shop', (None, OFF, OFF, OFF), (None, F, F, F)),
                      ('shop', (None, OFF, None, ON), (None, F, None, T)), ('shop', (OFF, (1,), OFF, ON), SHOP[2]),
                      ('shop', (OFF, ON, OFF, ON), (F, (1,), F, T)), ('shop', (OFF, ON, (0,), ON), SHOP[2]),
                      ('shop', [OFF, ON, OFF, ON], SHOP[2]), ('shop', SHOP[1], list(SHOP[2])), list(SHOP), SHOP + (1,), SHOP[:2],
                      ('town', (None, (), None, ()), (None, T, None, T)), ('town', PUT_TOWN[1], ((), None, T, F)),
                      ('town', (None, None, (), ()), (None, None, (True, True), F)), ('man', PUT_TOWN[1], (None, None, (), ()))):
            self.assertIs(is_history(SCHEMA, BOOK, WAYS, LETS, thing), False, thing)

    def test_random_terms(self):
        dice, told = new_dice(), []
        for many in [0, 1, 2] * 40:
            tables, book, ways, lets = random_terms(dice, many)
            schema, all_histories = Schema(tables), []
            for table in tables:
                all_histories.extend(histories(schema, book, ways, lets, table))
            for history in dice.sample(all_histories, min(2, len(all_histories))):
                self.assertIs(is_history(schema, book, ways, lets, history), True)
                for thing in dice.sample(list(variations(history)), 20):
                    told.append(is_history(schema, book, turned_round(ways), lets, thing))
                    expected = any(reference_histories.same(thing, each) for each in all_histories)
                    self.assertIs(told[-1], expected, (tables, book, ways, lets, thing))
        self.assertGreater(told.count(False), 1000)


class IsMeetingTest(unittest.TestCase):
    def test_just_meetings(self):
        one = ('town', ((True, False), (True, True), (False, False), (False, True)))
        self.assertIs(is_meeting(SCHEMA, BOOK, one), True)
        self.assertIs(is_meeting(schema=SCHEMA, book=BOOK, thing=('man', ((),) * 4)), True)
        self.assertIs(is_meeting(SCHEMA, [], ('town', ((),) * 4)), True)
        told = []
        for thing in THINGS + list(variations(one)) + list(variations(('man', ((),) * 4))):
            told.append(is_meeting(SCHEMA, BOOK, thing))
            self.assertIs(told[-1], reference_histories.is_meeting(TABLES, BOOK, thing), thing)
        self.assertGreater(told.count(False), 200)

    def test_wrong_meetings(self):
        for thing in (('town', ((True, False),) * 3), ('town', ((True, False),) * 5), ('town', (T,) * 4), ('town', ((),) * 4),
                      ('town', ((True, False),) * 3 + (None,)), ('town', ((True, False),) * 3 + ((1, False),)),
                      ('town', ((True, False),) * 3 + ([True, False],)), ('town', [(True, False)] * 4), ['town', ((True, False),) * 4],
                      ('shop', ((),) * 4), ('id', ((),) * 4), ('man', (T,) * 4), ('man', ()), ('man',), (None, ((),) * 4), None):
            self.assertIs(is_meeting(SCHEMA, BOOK, thing), False, thing)


class GivesTest(unittest.TestCase):
    def test_looks_of_shops_and_towns(self):
        # The first look is that of shops at towns that are of a town, the second one that of towns at those.
        self.assertEqual([look[:4] for look in looks(SCHEMA, BOOK)], [('shop', 'at', 'town', 'id'), ('town', 'of', 'town', 'id')])
        told = [[gives(SCHEMA, BOOK, WAYS, LETS, PUT_TOWN, index, version) for version in range(4)] for index in range(2)]
        self.assertEqual(told, [[False, False, True, False], [False, False, True, True]])
        for index in range(2):
            for version in range(4):
                self.assertIs(gives(SCHEMA, BOOK, WAYS, LETS, SHOP, index, version), False)
        self.assertIs(gives(schema=SCHEMA, book=BOOK, ways=WAYS, lets=LETS, history=PUT_TOWN, index=1, version=3), True)

    def test_by_flags(self):
        book = [('town', ('or', YES, ('has', 'id', 'town', 'id', ('flag', 'old'))))]
        history = ('town', (OFF, ON, OFF, ON), (T, F, F, F))
        told = [gives(FLAGGED_SCHEMA, book, {'town': ('drop', ('on',))}, ([('on', 'town', 'old')], []), history, 0, version)
                for version in range(4)]
        self.assertEqual(told, [False, True, False, True])

    def test_random_terms(self):
        dice, told = new_dice(), []
        for many in [1, 2] * 60:
            tables, book, ways, lets = random_terms(dice, many)
            schema = Schema(tables)
            for table in tables:
                own = histories(schema, book, ways, lets, table)
                for history in dice.sample(own, min(3, len(own))):
                    for index in range(many if len(looks(schema, book)) == many else 1):
                        for version in range(4):
                            told.append(gives(schema, book, ways, lets, history, index, version))
                            self.assertIs(told[-1], reference_histories.gives(tables, book, history, index, version))
        self.assertGreater(min(told.count(True), told.count(False)), 200)


class FitsTest(unittest.TestCase):
    def told(self, history, column, *answers):
        return fits(SCHEMA, BOOK, WAYS, LETS, history, column, ('town', answers))

    def test_by_own_answers(self):
        # SHOP answers its look, the first one of the kind, with F, T, F, T; what towns answer means nothing to it.
        for other in (True, False):
            both = [(False, other), (True, other), (False, other), (True, not other)]
            self.assertIs(self.told(SHOP, 'at', *both), True)
            self.assertIs(self.told(SHOP, 'at', *both[::-1]), False)
            for at in range(4):
                self.assertIs(self.told(SHOP, 'at', *both[:at], (not both[at][0], other), *both[at + 1:]), False)

    def test_by_what_it_gives(self):
        # PUT_TOWN gives the first look in version 2, and the second one in versions 2 and 3, both to its id.
        yes, no = (True, True), (False, False)
        self.assertIs(self.told(PUT_TOWN, 'id', no, no, yes, (False, True)), True)
        self.assertIs(self.told(PUT_TOWN, 'id', yes, yes, yes, yes), True)
        self.assertIs(self.told(PUT_TOWN, 'id', no, no, (False, True), (False, True)), False)
        self.assertIs(self.told(PUT_TOWN, 'id', no, no, (True, False), yes), False)
        self.assertIs(self.told(PUT_TOWN, 'id', yes, yes, yes, (True, False)), False)
        # Through its other column it answers the second look with T and F in these versions, and gives nothing.
        self.assertIs(self.told(PUT_TOWN, 'of', no, no, (False, True), no), True)
        self.assertIs(self.told(PUT_TOWN, 'of', yes, yes, yes, (True, False)), True)
        self.assertIs(self.told(PUT_TOWN, 'of', no, no, (False, True), (False, True)), False)
        self.assertIs(self.told(PUT_TOWN, 'of', no, no, no, no), False)

    def test_versions_in_which_it_is_not_there_mean_nothing(self):
        for first in ((True, True), (False, False)):
            for second in ((True, False), (False, True)):
                self.assertIs(self.told(PUT_TOWN, 'id', first, second, (True, True), (False, True)), True)

    def test_a_column_of_another_kind(self):
        self.assertIs(fits(SCHEMA, BOOK, WAYS, LETS, SHOP, 'by', ('man', ((),) * 4)), True)
        self.assertIs(fits(SCHEMA, BOOK, WAYS, LETS, SHOP, 'at', ('man', ((),) * 4)), False)
        self.assertIs(self.told(SHOP, 'by', *[(False, True), (True, True)] * 2), False)
        meeting = ('man', ((),) * 4)
        self.assertIs(fits(schema=SCHEMA, book=BOOK, ways=WAYS, lets=LETS, history=SHOP, column='by', meeting=meeting), True)

    def test_random_terms(self):
        dice, told = new_dice(), []
        for many in [0, 1, 2] * 60:
            tables, book, ways, lets = random_terms(dice, many)
            schema = Schema(tables)
            for table, (columns, _) in tables.items():
                own = histories(schema, book, ways, lets, table)
                kinds = [kind for _, kind in columns]
                for history in dice.sample(own, min(3, len(own))):
                    for column, kind in columns:
                        all_meetings = reference_histories.meetings(tables, book, dice.choice(kinds + [kind] * 4))
                        for meeting in dice.sample(all_meetings, min(8, len(all_meetings))):
                            told.append(fits(schema, book, ways, lets, history, column, meeting))
                            self.assertIs(told[-1], reference_histories.fits(tables, book, history, column, meeting))
        self.assertGreater(min(told.count(True), told.count(False)), 200)


class IsCaseTest(unittest.TestCase):
    def test_a_case(self):
        self.assertIs(is_case(SCHEMA, BOOK, WAYS, LETS, BASE, COPIES), True)
        self.assertIs(is_case(schema=SCHEMA, book=BOOK, ways=WAYS, lets=LETS, base=BASE, copies=COPIES), True)
        self.assertIs(is_case(SCHEMA, BOOK, turned_round(WAYS), LETS, turned_round(BASE), turned_round(COPIES)), True)
        same = {'man': ([], []), 'shop': ([OFF], []), 'town': ([(), ()], [])}
        self.assertIs(is_case(SCHEMA, BOOK, WAYS, ([], []), BASE, [same, same]), True)
        self.assertIs(is_case(SCHEMA, BOOK, WAYS, LETS, BASE, [same, same]), True)

    def test_other_numbers_of_copies_and_no_lists(self):
        for copies in ([], COPIES[:1], COPIES + COPIES[:1], tuple(COPIES), [COPIES[0], None], [COPIES], None, {}):
            self.assertIs(is_case(SCHEMA, BOOK, WAYS, LETS, BASE, copies), False)

    def test_what_is_not_let(self):
        self.assertIs(is_case(SCHEMA, BOOK, WAYS, LETS[::-1], BASE, COPIES), False)
        self.assertIs(is_case(SCHEMA, BOOK, WAYS, LETS, BASE, COPIES[::-1]), False)
        self.assertIs(is_case(SCHEMA, BOOK, WAYS, LETS[::-1], BASE, COPIES[::-1]), True)
        for at in range(2):
            for less in range(2):
                lets = (LETS[0][:at] + LETS[0][at + 1:], LETS[1]) if less == 0 else (LETS[0], LETS[1][:at] + LETS[1][at + 1:])
                self.assertIs(is_case(SCHEMA, BOOK, WAYS, lets, BASE, COPIES), False, lets)
        self.assertIs(is_case(SCHEMA, BOOK, WAYS, (SCHEMA.changes,) * 2, BASE, COPIES), True)

    def test_all_but_the_merge_keep_the_book(self):
        all_let = (SCHEMA.changes,) * 2
        open_shop = ((9, 9), ON)
        self.assertIs(is_case(SCHEMA, BOOK, WAYS, all_let, {**BASE, 'shop': [open_shop]}, COPIES), False)
        for at in range(2):
            copies = copying.deepcopy(COPIES)
            copies[at]['shop'][1].append(open_shop)
            self.assertIs(is_case(SCHEMA, BOOK, WAYS, all_let, BASE, copies), False)
        dropped = [COPIES[0], {**COPIES[1], 'town': ([None, None], [])}]
        self.assertIs(is_case(SCHEMA, BOOK, WAYS, all_let, BASE, dropped), True)

    def test_any_object(self):
        for thing in THINGS + list(variations(BASE)):
            self.assertIs(is_case(SCHEMA, BOOK, WAYS, LETS, thing, COPIES),
                          reference_histories.is_case(TABLES, BOOK, WAYS, LETS, thing, COPIES), thing)
        for thing in THINGS + list(variations(COPIES)):
            self.assertIs(is_case(SCHEMA, BOOK, WAYS, LETS, BASE, thing),
                          reference_histories.is_case(TABLES, BOOK, WAYS, LETS, BASE, thing), thing)
            self.assertIs(is_case(SCHEMA, BOOK, WAYS, LETS, thing, thing), False)


class HistoryOnTest(unittest.TestCase):
    def test_rows_of_the_base_and_put_rows(self):
        def on(*row):
            return history_on(SCHEMA, BOOK, WAYS, LETS, BASE, COPIES, row)

        self.assertEqual(on('shop', 0, 0), ('shop', (OFF, ON, OFF, ON), (T, T, F, F)))
        self.assertEqual(on('town', 0, 0), ('town', ((), (), (), ()), (T, T, F, F)))
        self.assertEqual(on('town', 0, 1), ('town', ((), (), None, None), (T, T, None, None)))
        self.assertEqual(on('shop', 1, 0), ('shop', (None, OFF, None, OFF), (None, T, None, F)))
        self.assertEqual(on('town', 2, 0), ('town', (None, None, (), ()), (None, None, T, T)))

    def test_by_name_and_keys_in_another_order(self):
        told = history_on(schema=SCHEMA, book=BOOK, ways=turned_round(WAYS), lets=LETS, base=turned_round(BASE),
                          copies=turned_round(COPIES), row=('shop', 0, 0))
        self.assertEqual(told, ('shop', (OFF, ON, OFF, ON), (T, T, F, F)))

    def test_dropped_by_one_and_by_both(self):
        drop = [('drop', 'town')]
        base = {'town': [((1,), ON), ((2,), ON), ((3,), OFF)]}
        copies = [{'town': ([None, None, OFF], [])}, {'town': ([ON, None, None], [])}]
        for way, ends in (('drop', (None, None, None)), ('keep', (ON, None, OFF))):
            for index, states in enumerate(((ON, None, ON), (ON, None, None), (OFF, OFF, None))):
                told = history_on(FLAGGED_SCHEMA, [], {'town': (way, ('on',))}, (drop, drop), base, copies, ('town', 0, index))
                own = states + (ends[index],)
                self.assertEqual(told, ('town', own, tuple([None if state is None else () for state in own])))

    def test_random_cases(self):
        dice, many_cases, seen = new_dice(), 0, set()
        for many in [0, 1, 2] * 300:
            tables, book, ways, lets = random_terms(dice, many)
            schema, base = Schema(tables), random_rows(dice, tables, 3, 1)
            copies = [random_let_copy(dice, tables, base, kinds) for kinds in lets]
            if dice.random() < 0.1:
                copies = copies[::-1]
            expected = reference_histories.is_case(tables, book, ways, lets, base, copies)
            self.assertIs(is_case(schema, book, ways, lets, base, copies), expected)
            if not expected:
                continue
            many_cases += 1
            for table in tables:
                all_histories = histories(schema, book, ways, lets, table)
                for source, rows in enumerate([base[table], copies[0][table][1], copies[1][table][1]]):
                    for index in range(len(rows)):
                        told = history_on(schema, book, ways, lets, base, copies, (table, source, index))
                        self.assertEqual(told, reference_histories.history_on(tables, book, ways, base, copies, (table, source, index)))
                        self.assertIn(told, all_histories)
                        seen.add((source, tuple([state is None for state in told[1]])))
        self.assertGreater(many_cases, 100)
        self.assertEqual(len(seen), 8)

    def test_unknown_rows(self):
        for row in (('shop', 0, 1), ('shop', 1, 1), ('shop', 2, 0), ('man', 0, 0), ('town', 3, 0), ('town', -1, 0), ('town', 0, -1),
                    ('town', False, 0), ('town', True, 0), ('town', 0, False), ('town', 0, True), ('nosuch', 0, 0), ('town', 0),
                    ('town', 0, 0, 0), ['town', 0, 0], ('town', 0, None), ('town', None, 0), (['town'], 0, 0), ('town', 0, 10 ** 39)):
            with self.assertRaises(UnknownRow):
                history_on(SCHEMA, BOOK, WAYS, LETS, BASE, COPIES, row)


class ErrorsTest(unittest.TestCase):
    def faults(self, dice):
        def some(wrong):
            return dice.sample(wrong, 70)

        return [
            (1, InvalidBook, some(wrong_ones(BOOK, lambda each: reference.is_book(TABLES, each)))),
            (2, InvalidWays, some(wrong_ones(WAYS, lambda each: reference_histories.are_ways(TABLES, each)))),
            (3, InvalidLets, some(wrong_ones(LETS, lambda each: reference_histories.are_lets(TABLES, each)))),
        ]

    def test_lets(self):
        for lets in (list(LETS), LETS[:1], LETS + LETS[:1], (LETS[0], tuple(LETS[1])), (LETS[0], None), (LETS[0] * 2, []),
                     (LETS[0], [('drop', 'nosuch')]), (LETS[0], ['drop']), {0: [], 1: []}, [], (), None, ([], [['drop', 'town']])):
            with self.assertRaises(InvalidLets):
                histories(SCHEMA, BOOK, WAYS, lets, 'shop')

    def test_errors_in_their_order_for_any_objects(self):
        dice = new_dice()
        terms, faults = [SCHEMA, BOOK, WAYS, LETS], self.faults(dice)
        tables = [each for each in THINGS if not isinstance(each, str) or each not in TABLES]
        wrong = [each for each in wrong_ones(SHOP, lambda each: reference_histories.is_history(TABLES, BOOK, WAYS, LETS, each))]
        wrong = (4, InvalidHistory, dice.sample(wrong, 60))
        numbers = [None, True, False, -1, 2, 10 ** 39, '0', (), (0,), [0], {}, [[]]]
        columns = [each for each in THINGS if each not in ('at', 'by')] + ['id', 'of', 'open', ('shop', 'at')]
        meetings = wrong_ones(('man', ((),) * 4), lambda each: reference_histories.is_meeting(TABLES, BOOK, each))
        check_errors(self, histories, terms + ['shop'], faults + [(4, UnknownTable, tables)], dice)
        check_errors(self, is_history, terms + [None], faults, dice)
        check_errors(self, is_meeting, [SCHEMA, BOOK, None], faults[:1], dice)
        check_errors(self, gives, terms + [SHOP, 0, 0], faults + [wrong, (5, InvalidNumber, numbers)], dice)
        numbers = numbers[:4] + [4] + numbers[5:]
        check_errors(self, gives, terms + [SHOP, 0, 0], faults + [wrong, (6, InvalidNumber, numbers)], dice)
        check_errors(self, fits, terms + [SHOP, 'by', ('man', ((),) * 4)], faults + [
            wrong, (5, UnknownColumn, columns), (6, InvalidMeeting, meetings)], dice)
        check_errors(self, is_case, terms + [None, None], faults, dice)

    def test_errors_of_history_on(self):
        dice = new_dice()
        rows = [None, (), 'shop', ('shop', 0, 1), ('shop', 0, True), [('shop', 0, 0)], {}, ('nosuch', 0, 0)] + THINGS
        bases = dice.sample(wrong_ones(BASE, lambda each: reference_histories.is_case(TABLES, BOOK, WAYS, LETS, each, COPIES)), 60)
        copies = wrong_ones(COPIES, lambda each: reference_histories.is_case(TABLES, BOOK, WAYS, LETS, BASE, each))
        for at, wrong in ((4, bases), (5, dice.sample(copies, 60) + [COPIES[::-1], COPIES[:1], COPIES * 2])):
            check_errors(self, history_on, [SCHEMA, BOOK, WAYS, LETS, BASE, COPIES, ('shop', 0, 0)], self.faults(dice) + [
                (at, InvalidCase, wrong), (6, UnknownRow, rows)], dice)


if __name__ == '__main__':
    unittest.main()
