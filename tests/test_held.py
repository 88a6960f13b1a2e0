import itertools
import unittest

from rulesmerged.errors import InvalidBook, InvalidHeld, InvalidKinds, InvalidWays
from rulesmerged.free import is_free
from rulesmerged.held import greatest_idle, is_enough, least_held
from rulesmerged.kept import is_kept
from rulesmerged.schemas import Schema
from tests import edges, reference, reference_histories
from tests.test_arguments import lists_and_dicts
from tests.test_free import FLAG_SCHEMA, FLAG_TABLES, NOT_BOTH, TURNED, all_lists
from tests.test_kept import BOOK, DROP, KEEP, SCHEMA, TABLES
from tests.things import THINGS, check_errors, new_dice, random_terms, turned_round, variations, wrong_ones

DROP_TOWN, PUT_SHOP, PUT_TOWN = ('drop', 'town'), ('put', 'shop'), ('put', 'town')


def dealings(kinds, held):
    """What is let to the two copies in all dealings of the held kinds."""
    found = []
    for owners in itertools.product((0, 1), repeat=len(held)):
        owner = dict(zip(held, owners))
        found.append(tuple([[kind for kind in kinds if owner.get(kind, copy) == copy] for copy in (0, 1)]))
    return found


def enough_lists(kinds, is_kept_with):
    """The ascending lists that are enough, as is_kept_with tells of lets."""
    return [held for held in all_lists(sorted(kinds)) if all(is_kept_with(lets) for lets in dealings(kinds, held))]


def least_and_idle(kinds, enough):
    """What least_held and greatest_idle tell if just these lists of the kinds are enough."""
    idle = [each for each in all_lists(sorted(kinds)) if each not in enough]
    least = [each for each in enough if not any(set(other) < set(each) for other in enough)]
    return sorted(least), sorted([each for each in idle if not any(set(each) < set(other) for other in idle)])


class Asked:
    """A book and ways that are asked for lists of kinds; what was_kept told is kept."""

    def __init__(self, tables, book, ways):
        self.schema, self.terms = Schema(tables), (tables, book, ways)
        self.told, self.told_plainly = {}, {}

    def is_kept(self, lets):
        key = repr([sorted(kinds) for kinds in lets])
        if key not in self.told:
            self.told[key] = is_kept(self.schema, *self.terms[1:], lets)
        return self.told[key]

    def is_kept_plainly(self, lets):
        key = repr([sorted(kinds) for kinds in lets])
        if key not in self.told_plainly:
            self.told_plainly[key] = len(reference_histories.kept_rules(*self.terms, lets)) == len(self.terms[1])
        return self.told_plainly[key]


def check_held(test, asked, kinds, is_kept_with):
    """All three functions tell what they must of some let kinds; returns what the last two tell."""
    _, book, ways = asked.terms
    enough = enough_lists(kinds, is_kept_with)
    for held in all_lists(kinds):
        test.assertIs(is_enough(asked.schema, book, ways, kinds, held[::-1]), sorted(held) in enough)
    told = least_held(asked.schema, book, turned_round(ways), kinds), greatest_idle(asked.schema, book, ways, kinds)
    test.assertEqual(told, least_and_idle(kinds, enough))
    return told


class IsEnoughTest(unittest.TestCase):
    def test_towns_that_one_copy_drops(self):
        # If one copy alone drops towns, it may not put shops; and no copy may put shops if the other one drops towns.
        for kinds, held, enough in (
                ([DROP_TOWN, PUT_TOWN], [], False), ([DROP_TOWN, PUT_TOWN], [DROP_TOWN], True),
                ([DROP_TOWN, PUT_TOWN], [PUT_TOWN], False), ([DROP_TOWN, PUT_TOWN], [PUT_TOWN, DROP_TOWN], True),
                ([DROP_TOWN, PUT_SHOP], [DROP_TOWN], False), ([DROP_TOWN, PUT_SHOP], [DROP_TOWN, PUT_SHOP], False),
                ([PUT_SHOP, PUT_TOWN], [], True), ([PUT_SHOP, PUT_TOWN], [PUT_SHOP], True), ([], [], True)):
            self.assertIs(is_enough(SCHEMA, BOOK, DROP, kinds, held), enough, (kinds, held))
            self.assertIs(is_enough(schema=SCHEMA, book=BOOK, ways=DROP, kinds=kinds[::-1], held=held[::-1]), enough)
            self.assertIs(is_enough(SCHEMA, BOOK, KEEP, kinds, held), True)

    def test_each_way_of_dealing_counts(self):
        # One copy holds both, or each copy holds one of them, and then the merge has towns that are both busy and shut.
        busy, shut = ('on', 'town', 'busy'), ('on', 'town', 'shut')
        for held in ([busy], [shut], [busy, shut]):
            self.assertIs(is_enough(FLAG_SCHEMA, [NOT_BOTH], TURNED, [busy, shut], held), False)
        self.assertIs(is_kept(FLAG_SCHEMA, [NOT_BOTH], TURNED, ([busy, shut], [])), True)

    def test_nothing_held_is_enough_if_the_kinds_are_free(self):
        dice = new_dice()
        for many in [0, 1, 2] * 40:
            tables, book, ways, (kinds, _) = random_terms(dice, many)
            schema = Schema(tables)
            self.assertIs(is_enough(schema, book, ways, kinds[:4], []), is_free(schema, book, ways, kinds[:4]))

    def test_more_held_is_enough_if_fewer_are(self):
        dice, many_more = new_dice(), 0
        for many in [0, 1, 2] * 60:
            tables, book, ways, (kinds, _) = random_terms(dice, many)
            schema, kinds = Schema(tables), kinds[:4]
            held = dice.sample(kinds, dice.randint(0, len(kinds)))
            if is_enough(schema, book, ways, kinds, held):
                for kind in kinds:
                    if kind not in held:
                        self.assertIs(is_enough(schema, book, ways, kinds, held + [kind]), True)
                        many_more += 1
        self.assertGreater(many_more, 50)


class LeastAndGreatestTest(unittest.TestCase):
    def test_examples_with_and_without_answers(self):
        self.assertEqual(least_held(SCHEMA, BOOK, DROP, []), [[]])
        self.assertEqual(greatest_idle(SCHEMA, BOOK, DROP, []), [])
        self.assertEqual(least_held(SCHEMA, BOOK, KEEP, SCHEMA.changes), [[]])
        self.assertEqual(greatest_idle(schema=SCHEMA, book=BOOK, ways=KEEP, kinds=SCHEMA.changes), [])
        self.assertEqual(least_held(schema=SCHEMA, book=BOOK, ways=DROP, kinds=[PUT_SHOP, DROP_TOWN]), [])
        self.assertEqual(greatest_idle(SCHEMA, BOOK, DROP, [PUT_SHOP, DROP_TOWN]), [[DROP_TOWN, PUT_SHOP]])
        self.assertEqual(least_held(SCHEMA, BOOK, DROP, [PUT_TOWN, DROP_TOWN]), [[DROP_TOWN]])
        self.assertEqual(least_held(SCHEMA, BOOK, DROP, [DROP_TOWN]), [[DROP_TOWN]])
        self.assertEqual(greatest_idle(SCHEMA, BOOK, DROP, [DROP_TOWN]), [[]])

    def test_two_that_must_both_be_held(self):
        schema, ways = Schema(edges.FOUR), {'man': ('drop', ()), 'shop': ('drop', ()), 'town': ('drop', ('on',)), 'ware': ('keep', ('on', 'on'))}
        book = [('shop', ('has', 'at', 'town', 'id', edges.YES)), ('shop', ('has', 'by', 'man', 'id', edges.YES))]
        kinds = [('put', 'ware'), ('drop', 'town'), ('on', 'town', 'old'), ('drop', 'man')]
        self.assertEqual(least_held(schema, book, ways, kinds), [[('drop', 'man'), ('drop', 'town')]])
        self.assertEqual(greatest_idle(schema, book, ways, kinds), [
            [('drop', 'man'), ('on', 'town', 'old'), ('put', 'ware')], [('drop', 'town'), ('on', 'town', 'old'), ('put', 'ware')]])
        self.assertEqual(least_held(schema, book, ways, kinds[:2]), [[('drop', 'town')]])
        # What was put by either copy alone does not count: only that both held kinds are dealt in all ways.
        self.assertEqual(least_held(schema, book, ways, kinds[:1] + [('put', 'shop'), ('drop', 'man')]), [])

    def test_flags_plainly(self):
        busy, shut = ('on', 'town', 'busy'), ('on', 'town', 'shut')
        ways = {'town': ('drop', ('on', 'turned'))}
        for kinds in ([busy, shut], [busy, shut, ('off', 'town', 'busy')], [('off', 'town', 'busy'), shut]):
            asked = Asked(FLAG_TABLES, [NOT_BOTH], ways)
            check_held(self, asked, kinds, asked.is_kept_plainly)

    def test_edges(self):
        dice, seen = new_dice(), set()
        for _, tables, book in edges.BOOKS:
            for ways in edges.all_ways_of(tables, dice):
                asked = Asked(tables, book, ways)
                for kinds in edges.kinds_of(tables, dice, 4):
                    told = check_held(self, asked, kinds, asked.is_kept)
                    seen.add((len(kinds), repr(told[0]) if told[0] in ([], [[]]) else len(told[0][0])))
        self.assertTrue({(0, '[[]]'), (1, '[[]]'), (1, 1), (4, '[[]]'), (4, '[]'), (4, 1)} <= seen, seen)

    def test_random_books_plainly(self):
        dice, many_plain, lengths = new_dice(), 0, set()
        while many_plain < 25:
            tables, book, ways, (kinds, _) = random_terms(dice, dice.choice([0, 1, 1, 2]))
            if len(reference.changes(tables)) <= 6 and len(reference_histories.looks(book)) < 2 and len(kinds) > 1:
                asked = Asked(tables, book, ways)
                told = check_held(self, asked, kinds[:3], asked.is_kept_plainly)
                lengths.add(repr(told))
                many_plain += 1
        self.assertGreater(len(lengths), 3)

    def test_random_books(self):
        dice, seen = new_dice(), set()
        for many in [0, 1, 2, 2] * 25:
            tables, book, ways, (kinds, _) = random_terms(dice, many)
            asked = Asked(tables, book, ways)
            seen.add(repr(check_held(self, asked, kinds[:4], asked.is_kept)))
        self.assertGreater(len(seen), 15)

    def test_lists_are_new_and_stand_once(self):
        kinds = [DROP_TOWN, PUT_TOWN, PUT_SHOP]
        for call in (least_held, greatest_idle):
            told = [call(SCHEMA, BOOK, DROP, kinds[:2]) for _ in range(2)]
            found = lists_and_dicts(told)
            self.assertEqual(len({id(each) for each in found}), len(found))
            told[0][0].clear()
            self.assertEqual(call(SCHEMA, BOOK, DROP, kinds[:2]), told[1])


class ErrorsTest(unittest.TestCase):
    def test_held(self):
        kinds, many = [DROP_TOWN, PUT_TOWN], 0
        for held in THINGS + list(variations(kinds)) + list(variations([PUT_TOWN])) + [
                [PUT_SHOP], [PUT_TOWN, PUT_SHOP], [PUT_TOWN] * 2, (PUT_TOWN,), [list(PUT_TOWN)], {PUT_TOWN: 1}, kinds + [PUT_SHOP]]:
            if not reference.are_kinds(TABLES, held) or not set(held) <= set(kinds):
                with self.assertRaises(InvalidHeld):
                    is_enough(SCHEMA, BOOK, DROP, kinds, held)
                many += 1
        self.assertGreater(many, 200)
        with self.assertRaises(InvalidHeld):
            is_enough(SCHEMA, BOOK, DROP, [], [PUT_TOWN])

    def test_errors_in_their_order_for_any_objects(self):
        dice, kinds = new_dice(), [DROP_TOWN, PUT_SHOP]
        faults = [
            (1, InvalidBook, dice.sample(wrong_ones(BOOK, lambda each: reference.is_book(TABLES, each)), 70)),
            (2, InvalidWays, dice.sample(wrong_ones(DROP, lambda each: reference_histories.are_ways(TABLES, each)), 70)),
            (3, InvalidKinds, wrong_ones(kinds, lambda each: reference.are_kinds(TABLES, each))),
        ]
        held = wrong_ones([PUT_SHOP], lambda each: reference.are_kinds(TABLES, each) and set(each) <= set(kinds))
        check_errors(self, is_enough, [SCHEMA, BOOK, DROP, kinds, [PUT_SHOP]], faults + [(4, InvalidHeld, held)], dice)
        check_errors(self, least_held, [SCHEMA, BOOK, DROP, kinds], faults, dice)
        check_errors(self, greatest_idle, [SCHEMA, BOOK, DROP, kinds], faults, dice)


if __name__ == '__main__':
    unittest.main()
