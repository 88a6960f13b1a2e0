import unittest

from rulesmerged.errors import InvalidBook, InvalidHistory, InvalidLets, InvalidWays, UnknownTable
from rulesmerged.histories import histories, history_on, is_case
from rulesmerged.left import case_with, histories_left, rounds_of_histories
from rulesmerged.schemas import Schema
from tests import reference, reference_histories
from tests.test_arguments import lists_and_dicts
from tests.things import THINGS, check_errors, new_dice, random_let_copy, random_rows, random_terms, turned_round, wrong_ones

YES = ('yes',)
T, F = (True,), (False,)
SAME = ((), (), (), ())

# Shops stand at towns; no town may be of one that a town is of, so there is none, and so there is no shop.
TABLES = {'shop': ((('at', 'town'),), ()), 'town': ((('id', 'town'), ('of', 'town')), ())}
SCHEMA = Schema(TABLES)
BOOK = [('shop', ('has', 'at', 'town', 'id', YES)), ('town', ('not', ('has', 'of', 'town', 'of', YES)))]
WAYS = {'shop': ('drop', ()), 'town': ('drop', ())}
NONE = ([], [])


def shop(*answers):
    return ('shop', SAME, answers)


def town(*answers):
    return ('town', SAME, answers)


# Shops at towns; rows may be dropped and put.
AT = [('shop', ('has', 'at', 'town', 'id', YES))]
AT_TABLES = {'shop': ((('at', 'town'),), ()), 'town': ((('id', 'town'),), ())}
AT_SCHEMA = Schema(AT_TABLES)
AT_LETS = ([('put', 'shop')], [('drop', 'town')])


class Told:
    """All that is told of the row histories of terms."""

    def __init__(self, tables, book, ways, lets):
        self.tables, self.terms = tables, (book, ways, lets)
        self.schema = Schema(tables)
        self.all = [each for table in sorted(tables) for each in histories(self.schema, book, ways, lets, table)]
        self.rounds = rounds_of_histories(self.schema, book, ways, lets)
        self.left = [each for table in sorted(tables) for each in histories_left(self.schema, book, ways, lets, table)]

    def case(self, history):
        return case_with(self.schema, *self.terms, history)


def check_case(test, told, history):
    """What case_with tells is a case, by the plain words too, and its row has the row history."""
    base, copies, row = told.case(history)
    book, ways, lets = told.terms
    test.assertTrue(reference_histories.is_case(told.tables, book, ways, lets, base, copies), (told.tables, told.terms, history))
    test.assertIs(is_case(told.schema, book, ways, lets, base, copies), True)
    test.assertEqual(reference_histories.history_on(told.tables, book, ways, base, copies, row), history)
    test.assertEqual(history_on(told.schema, book, ways, lets, base, copies, row), history)
    test.assertLessEqual(sum(len(base[table]) + len(copies[0][table][1]) + len(copies[1][table][1]) for table in base), 3000)
    found = lists_and_dicts((base, copies))
    test.assertEqual(len({id(each) for each in found}), len(found))
    for each in (base, *copies):
        test.assertEqual(list(each), sorted(told.tables))
    return base, copies, row


class RoundsTest(unittest.TestCase):
    def test_first_and_second_round(self):
        # In the first round towns still stand, so shops at them do; only in the second one they do not.
        self.assertEqual(rounds_of_histories(SCHEMA, BOOK, WAYS, NONE), {
            shop(T, T, T, F): 1, shop(T, T, T, T): 2, town(F, F, F, F): 1, town(F, F, F, T): 1})
        self.assertEqual(rounds_of_histories(schema=SCHEMA, book=BOOK[::-1], ways=turned_round(WAYS), lets=NONE),
                         rounds_of_histories(SCHEMA, BOOK, WAYS, NONE))

    def test_third_round(self):
        tables = {'town': ((('at', 'k'), ('by', 'k')), ('old',))}
        book = [('town', ('not', ('has', 'by', 'town', 'by', ('has', 'at', 'town', 'at', ('flag', 'old')))))]
        told = rounds_of_histories(Schema(tables), book, {'town': ('keep', ('turned',))}, ([('put', 'town')],) * 2)
        self.assertEqual({number: list(told.values()).count(number) for number in (1, 2, 3, 4)}, {1: 88, 2: 2, 3: 3, 4: 0})
        self.assertEqual(told, reference_histories.Striking(
            tables, book, {'town': ('keep', ('turned',))}, ([('put', 'town')],) * 2).rounds())

    def test_rounds_go_on_behind_one_in_which_a_single_row_history_is_struck(self):
        tables = {'town': ((('at', 'k'), ('by', 'k')), ('old',))}
        book = [('town', ('not', ('has', 'by', 'town', 'by', ('has', 'at', 'town', 'at', ('flag', 'old')))))]
        ways, lets = {'town': ('drop', ('turned',))}, ([('drop', 'town'), ('put', 'town')], [('on', 'town', 'old')])
        told = rounds_of_histories(Schema(tables), book, ways, lets)
        self.assertEqual({number: list(told.values()).count(number) for number in (1, 2, 3, 4)}, {1: 118, 2: 1, 3: 2, 4: 0})
        self.assertEqual(told, reference_histories.Striking(tables, book, ways, lets).rounds())

    def test_either_column_strikes(self):
        # Each town is of itself and has a town of it, through two columns.
        schema = Schema({'town': ((('id', 'town'), ('of', 'town')), ())})
        told = []
        for own, other in (('id', 'of'), ('of', 'id')):
            book = [('town', ('not', ('has', own, 'town', own, YES)))]
            told.append(rounds_of_histories(schema, book, {'town': ('drop', ())}, NONE))
            self.assertEqual(told[-1], {town(F, F, F, F): 1, town(F, F, F, T): 1})
            book = [('town', ('has', own, 'town', other, YES))]
            self.assertEqual(rounds_of_histories(schema, book, {'town': ('drop', ())}, NONE), {town(T, T, T, F): 1})

    def test_without_looks_none_are_struck(self):
        for book in ([], [('town', ('not', YES))], [('town', YES), ('shop', YES)]):
            self.assertEqual(rounds_of_histories(SCHEMA, book, WAYS, (SCHEMA.changes,) * 2), {})
            for table in TABLES:
                told = histories(SCHEMA, book, WAYS, (SCHEMA.changes,) * 2, table)
                self.assertEqual(histories_left(SCHEMA, book, WAYS, (SCHEMA.changes,) * 2, table), told)

    def test_random_terms(self):
        dice, most, seen = new_dice(), {}, []
        for many in [0, 1, 1, 2, 2] * 50:
            tables, book, ways, lets = random_terms(dice, many)
            told = Told(tables, book, turned_round(ways), lets)
            self.assertEqual(list(told.rounds), [each for each in told.all if each in told.rounds])
            self.assertEqual(told.left, [each for each in told.all if each not in told.rounds])
            if len(told.all) * 16 ** many < 60000:
                self.assertEqual(told.rounds, reference_histories.Striking(tables, book, ways, lets).rounds())
                seen.append(max(told.rounds.values(), default=0))
                most[many] = most.get(many, 0) + len(told.rounds)
        self.assertGreater(min(seen.count(0), seen.count(1), seen.count(2)), 5)
        self.assertGreater(min(most[1], most[2]), 500)

    def test_new_each_time(self):
        rounds_of_histories(SCHEMA, BOOK, WAYS, NONE).clear()
        histories_left(AT_SCHEMA, AT, WAYS, AT_LETS, 'town').clear()
        self.assertEqual(len(rounds_of_histories(SCHEMA, BOOK, WAYS, NONE)), 4)
        self.assertEqual(len(histories_left(AT_SCHEMA, AT, WAYS, AT_LETS, 'town')), 2)


class LeftTest(unittest.TestCase):
    def test_shops_at_towns(self):
        self.assertEqual(histories_left(AT_SCHEMA, AT, WAYS, AT_LETS, 'town'), [
            ('town', ((), (), None, None), ((), (), None, None)), ('town', SAME, SAME)])
        self.assertEqual(histories_left(schema=AT_SCHEMA, book=AT, ways=WAYS, lets=AT_LETS, table='shop'), [
            ('shop', (None, (), None, ()), (None, T, None, F)), ('shop', (None, (), None, ()), (None, T, None, T)),
            ('shop', SAME, (T, T, T, T))])
        keep = {**WAYS, 'town': ('keep', ())}
        self.assertEqual(histories_left(AT_SCHEMA, AT, keep, AT_LETS, 'shop'), [
            ('shop', (None, (), None, ()), (None, T, None, T)), ('shop', SAME, (T, T, T, T))])

    def test_none_are_left(self):
        for table in TABLES:
            self.assertEqual(histories_left(SCHEMA, BOOK, WAYS, NONE, table), [])

    def test_rows_of_random_cases_have_row_histories_that_are_left(self):
        dice, many_rows = new_dice(), 0
        for many in [1, 1, 2] * 150:
            tables, book, ways, lets = random_terms(dice, many)
            told = None
            for _ in range(4):
                base = random_rows(dice, tables, 3, 1)
                copies = [random_let_copy(dice, tables, base, kinds) for kinds in lets]
                if reference_histories.is_case(tables, book, ways, lets, base, copies):
                    told = told or Told(tables, book, ways, lets)
                    for table in tables:
                        for source, rows in enumerate([base[table], copies[0][table][1], copies[1][table][1]]):
                            for index in range(len(rows)):
                                row = (table, source, index)
                                self.assertIn(reference_histories.history_on(tables, book, ways, base, copies, row), told.left)
                                many_rows += 1
        self.assertGreater(many_rows, 500)


class CaseWithTest(unittest.TestCase):
    def test_none_for_what_is_struck(self):
        for history in (shop(T, T, T, F), shop(T, T, T, T), town(F, F, F, F)):
            self.assertIsNone(case_with(SCHEMA, BOOK, WAYS, NONE, history))
        self.assertIsNone(case_with(schema=AT_SCHEMA, book=AT, ways=WAYS, lets=AT_LETS, history=('shop', SAME, (T, T, T, F))))

    def test_rows_of_the_base_and_put_rows(self):
        told = Told(AT_TABLES, AT, WAYS, ([('put', 'shop'), ('put', 'town')], [('drop', 'town'), ('put', 'town')]))
        sources = {}
        for history in told.left:
            _, _, (table, source, _) = check_case(self, told, history)
            sources[table, source] = sources.get((table, source), 0) + 1
        self.assertEqual(sources, {('shop', 0): 1, ('shop', 1): 2, ('town', 0): 2, ('town', 1): 1, ('town', 2): 1})
        self.assertEqual(len(told.rounds), len(told.all) - 7)

    def test_all_that_are_left(self):
        tables = {'man': ((('id', 'man'),), ()), 'shop': ((('at', 'town'), ('by', 'man')), ()), 'town': ((('id', 'town'),), ('old',))}
        for book in ([('shop', ('and', ('has', 'at', 'town', 'id', ('flag', 'old')), ('has', 'by', 'man', 'id', YES)))],
                     [('man', ('has', 'id', 'shop', 'by', ('has', 'at', 'town', 'id', ('not', ('flag', 'old')))))],
                     [('town', ('or', ('flag', 'old'), ('has', 'id', 'shop', 'at', YES)))], []):
            for drop in ('drop', 'keep'):
                ways = {'man': (drop, ()), 'shop': ('drop', ()), 'town': ('drop', ('turned',))}
                lets = ([('drop', 'shop'), ('put', 'man'), ('on', 'town', 'old')], [('off', 'town', 'old'), ('put', 'town')])
                told = Told(tables, book, ways, lets)
                for history in told.all:
                    if history in told.rounds:
                        self.assertIsNone(told.case(history))
                    else:
                        check_case(self, told, history)

    def test_random_terms(self):
        dice, many_cases = new_dice(), {}
        for many in [0, 1, 2] * 80:
            told = Told(*random_terms(dice, many))
            for history in dice.sample(told.left, min(6, len(told.left))):
                _, _, (_, source, _) = check_case(self, told, history)
                many_cases[many, source] = many_cases.get((many, source), 0) + 1
            for history in dice.sample(list(told.rounds), min(3, len(told.rounds))):
                self.assertIsNone(told.case(history))
        self.assertGreater(min(many_cases[many, source] for many in range(3) for source in range(3)), 10)


class ErrorsTest(unittest.TestCase):
    def test_errors_in_their_order_for_any_objects(self):
        dice, terms = new_dice(), [AT_SCHEMA, AT, WAYS, AT_LETS]
        faults = [
            (1, InvalidBook, dice.sample(wrong_ones(AT, lambda each: reference.is_book(AT_TABLES, each)), 70)),
            (2, InvalidWays, dice.sample(wrong_ones(WAYS, lambda each: reference_histories.are_ways(AT_TABLES, each)), 70)),
            (3, InvalidLets, dice.sample(wrong_ones(AT_LETS, lambda each: reference_histories.are_lets(AT_TABLES, each)), 70)),
        ]
        tables = [each for each in THINGS if not isinstance(each, str) or each not in AT_TABLES]
        history = ('shop', SAME, (T, T, T, T))
        wrong = wrong_ones(history, lambda each: reference_histories.is_history(AT_TABLES, AT, WAYS, AT_LETS, each))
        check_errors(self, rounds_of_histories, terms, faults, dice)
        check_errors(self, histories_left, terms + ['shop'], faults + [(4, UnknownTable, tables)], dice)
        check_errors(self, case_with, terms + [history], faults + [(4, InvalidHistory, wrong)], dice)


if __name__ == '__main__':
    unittest.main()
