import itertools
import unittest

from rulesmerged.errors import InvalidBook, InvalidCondition, InvalidLets, InvalidWays, UnknownTable
from rulesmerged.meeting import always
from rulesmerged.needed import greatest_spoilers, least_rules
from rulesmerged.schemas import Schema
from tests import edges, reference, reference_histories, reference_meeting
from tests.edges import NEVER, YES
from tests.test_arguments import lists_and_dicts
from tests.test_free import FLAG_SCHEMA, TURNED
from tests.test_kept import BOOK, DROP, KEEP, LETS, SCHEMA, TABLES
from tests.things import (THINGS, check_errors, new_dice, random_asked, random_condition, turned_round, variations, wrong_ones)

BUSY, SHUT = ('flag', 'busy'), ('flag', 'shut')
PUT = ([('put', 'town')], [('put', 'town')])


def index_lists(book):
    return [list(each) for many in range(len(book) + 1) for each in itertools.combinations(range(len(book)), many)]


def least_and_spoilers(book, is_met):
    """What both functions tell, as is_met tells of the books of some rules."""
    met = [each for each in index_lists(book) if is_met([book[index] for index in each])]
    spoiled = [each for each in index_lists(book) if each not in met]
    least = [each for each in met if not any(set(other) < set(each) for other in met)]
    return sorted(least), sorted([each for each in spoiled if not any(set(each) < set(other) for other in spoiled)])


def both(*asked):
    return least_rules(*asked), greatest_spoilers(*asked)


class NeededTest(unittest.TestCase):
    def test_flags(self):
        book = [('town', BUSY), ('town', ('or', BUSY, SHUT)), ('town', ('not', SHUT))]
        self.assertEqual(both(FLAG_SCHEMA, book, TURNED, PUT, 'town', BUSY), ([[0], [1, 2]], [[1], [2]]))
        self.assertEqual(both(FLAG_SCHEMA, book, TURNED, PUT, 'town', ('and', BUSY, ('not', SHUT))), ([[0, 2], [1, 2]], [[0, 1], [2]]))
        self.assertEqual(least_rules(schema=FLAG_SCHEMA, book=book, ways=TURNED, lets=PUT, table='town', condition=BUSY), [[0], [1, 2]])
        self.assertEqual(greatest_spoilers(schema=FLAG_SCHEMA, book=book, ways=TURNED, lets=PUT, table='town', condition=BUSY), [[1], [2]])
        # Each copy turns one of them off, so what each of them keeps by one of both is lost.
        lets = ([('off', 'town', 'busy')], [('off', 'town', 'shut')])
        self.assertEqual(both(FLAG_SCHEMA, book[1:2], TURNED, lets, 'town', book[1][1]), ([], [[0]]))
        self.assertEqual(both(FLAG_SCHEMA, book, TURNED, lets, 'town', book[1][1]), ([[0], [1, 2]], [[1], [2]]))

    def test_without_answers(self):
        for book in ([], BOOK, [('shop', NEVER)]):
            self.assertEqual(both(SCHEMA, book, DROP, LETS, 'shop', YES), ([[]], []))
            self.assertEqual(both(SCHEMA, book, DROP, LETS, 'town', NEVER), ([], [list(range(len(book)))]))
        self.assertEqual(both(SCHEMA, [], DROP, LETS, 'shop', NEVER), ([], [[]]))

    def test_equal_rules_and_six_of_them(self):
        self.assertEqual(both(SCHEMA, BOOK[:1] * 2, KEEP, LETS, 'shop', BOOK[0][1]), ([[0], [1]], [[]]))
        self.assertEqual(both(SCHEMA, BOOK[:1] * 6, KEEP, LETS, 'shop', BOOK[0][1]), ([[rule] for rule in range(6)], [[]]))
        self.assertEqual(both(SCHEMA, BOOK[:1] * 6, DROP, LETS, 'shop', BOOK[0][1]), ([], [[0, 1, 2, 3, 4, 5]]))
        book = [BOOK[1], BOOK[0], BOOK[1], ('town', NEVER), BOOK[1], BOOK[0]]
        # Without towns there are no shops, if those are at towns; so no town may be dropped.
        self.assertEqual(both(SCHEMA, book, DROP, LETS, 'shop', NEVER), ([[1, 3], [3, 5]], [[0, 1, 2, 4, 5], [0, 2, 3, 4]]))

    def test_edges(self):
        dice, seen = new_dice(), set()
        for _, tables, book in edges.BOOKS:
            for ways in edges.all_ways_of(tables, dice)[::2]:
                lets = tuple(dice.choice(edges.kinds_of(tables, dice, 6)) for _ in range(2))
                for table in tables:
                    condition = dice.choice([rule[1] for rule in book if rule[0] == table] or [NEVER])
                    for asked in (condition, random_condition(dice, tables, table, 1)):
                        expected = least_and_spoilers(book, lambda rules: always(Schema(tables), rules, ways, lets, table, asked))
                        self.assertEqual(both(Schema(tables), book, ways, lets, table, asked), expected)
                        seen.add(repr(expected))
        self.assertGreater(len(seen), 5)

    def test_random_books(self):
        dice, seen, many_plain = new_dice(), set(), 0
        for _ in range(250):
            tables, book, ways, lets, table, condition = random_asked(dice)
            book = (book + [(table, dice.choice([('or', condition, book[0][1])] if book[0][0] == table else [condition]))] + book)[:6]
            expected = least_and_spoilers(book, lambda rules: always(Schema(tables), rules, ways, lets, table, condition))
            self.assertEqual(both(Schema(tables), book, turned_round(ways), lets, table, condition), expected)
            seen.add(repr(expected))
            if len(reference_histories.looks(book + [(table, condition)])) < 2 and len(book) < 4 and len(tables) < 3 and many_plain < 15:
                self.assertEqual(expected, least_and_spoilers(
                    book, lambda rules: reference_meeting.always(tables, rules, ways, lets, table, condition)))
                many_plain += 1
        self.assertGreater(len(seen), 12)
        self.assertEqual(many_plain, 15)

    def test_lists_are_new_and_stand_once(self):
        book = [('town', BUSY), ('town', ('or', BUSY, SHUT)), ('town', ('not', SHUT))]
        for call in (least_rules, greatest_spoilers):
            told = [call(FLAG_SCHEMA, book, TURNED, PUT, 'town', BUSY) for _ in range(2)]
            found = lists_and_dicts(told)
            self.assertEqual(len({id(each) for each in found}), len(found))
            told[0][0].clear()
            self.assertEqual(call(FLAG_SCHEMA, book, TURNED, PUT, 'town', BUSY), told[1])


class ErrorsTest(unittest.TestCase):
    def test_errors_in_their_order_for_any_objects(self):
        dice, look = new_dice(), BOOK[0][1]
        faults = [
            (1, InvalidBook, dice.sample(wrong_ones(BOOK, lambda each: reference.is_book(TABLES, each)), 70)),
            (2, InvalidWays, dice.sample(wrong_ones(DROP, lambda each: reference_histories.are_ways(TABLES, each)), 70)),
            (3, InvalidLets, dice.sample(wrong_ones(LETS, lambda each: reference_histories.are_lets(TABLES, each)), 70)),
            (4, UnknownTable, [each for each in THINGS if not isinstance(each, str) or each not in TABLES]),
            (5, InvalidCondition, [each for each in THINGS + list(variations(look)) if not reference.is_condition(TABLES, 'shop', each)]),
        ]
        check_errors(self, least_rules, [SCHEMA, BOOK, DROP, LETS, 'shop', look], faults, dice)
        check_errors(self, greatest_spoilers, [SCHEMA, BOOK, DROP, LETS, 'shop', look], faults, dice)


if __name__ == '__main__':
    unittest.main()
