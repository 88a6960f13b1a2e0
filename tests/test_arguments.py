"""What holds for all calls alike: arguments stay as they are, and the order of the keys of a dict means nothing."""

import copy
import inspect
import unittest

from rulesmerged import (books, conditions, copies, errors, free, held, histories, kept, left, looks, meeting, mending, merges, needed,
                         papers, rows, schemas, shell, stores, texts, ways)
from tests import reference_histories
from tests.things import ROWS, TABLES, new_dice, turned_round

SCHEMA = schemas.Schema(TABLES)
CONDITION = ('or', ('has', 'id', 'shop', 'at', ('flag', 'open')), ('not', ('flag', 'old')))
BOOK = [('town', CONDITION), ('town', ('flag', 'old')), ('man', ('yes',))]
COPY = {
    'town': ([None, (True, False), (True, False)], []),
    'shop': ([(True,), (False,)], [((3, 4), (True,)), ((3, 4), (True,))]),
    'man': ([(), None], [((5,), ())]),
}

# A case, in which each shop is at a town, until it is merged.
WAYS = {'town': ('drop', ('turned', 'on')), 'shop': ('drop', ('off',)), 'man': ('keep', ())}
AT = [('shop', ('has', 'at', 'town', 'id', ('flag', 'old')))]
LETS = ([('put', 'shop'), ('on', 'shop', 'open')], [('drop', 'town'), ('put', 'man')])
BASE = {'town': [((1, 2), (True, False)), ((2, 2), (True, False))], 'shop': [((2, 7), (False,))], 'man': []}
FIRST = {'town': ([(True, False)] * 2, []), 'shop': ([(True,)], [((1, 7), (False,))]), 'man': ([], [])}
SECOND = {'town': ([None, (True, False)], []), 'shop': ([(False,)], []), 'man': ([], [((7,), ())])}
TERMS = [SCHEMA, AT, WAYS, LETS]
HISTORY = ('shop', (None, (False,), None, (False,)), (None, (True,), None, (False,)))
STRUCK = ('shop', ((False,), (True,), (False,), (False,)), ((True,), (True,), (True,), (False,)))
MEETING = ('town', ((True,), (True,), (True,), (False,)))
FREE = [schemas.Schema({'man': TABLES['man']}), [('man', ('has', 'id', 'man', 'id', ('yes',)))], {'man': ('drop', ())}]
SCRIPT = [('set', 'town', 'old', ('has', 'id', 'shop', 'at', ('yes',))), ('drop', 'shop', ('not', AT[0][1]))]

CALLS = [
    (merges.are_ways, [SCHEMA, WAYS]), (merges.merged, [SCHEMA, WAYS, BASE, [FIRST, SECOND]]),
    (merges.fewest_breaking, [SCHEMA, AT, WAYS, BASE, [FIRST, SECOND, FIRST]]), (looks.looks, [SCHEMA, BOOK]),
    (looks.own_looks, [SCHEMA, BOOK, 'town']), (looks.looks_into, [SCHEMA, BOOK, 'shop', 'at']),
    (looks.looks_through, [SCHEMA, BOOK, 'town']), (histories.histories, TERMS + ['shop']),
    (histories.is_history, TERMS + [HISTORY]), (histories.is_meeting, [SCHEMA, AT, MEETING]),
    (histories.gives, TERMS + [HISTORY, 0, 3]), (histories.fits, TERMS + [HISTORY, 'at', MEETING]),
    (histories.is_case, TERMS + [BASE, [FIRST, SECOND]]),
    (histories.history_on, TERMS + [BASE, [FIRST, SECOND], ('shop', 0, 0)]), (left.rounds_of_histories, TERMS),
    (left.histories_left, TERMS + ['shop']), (left.case_with, TERMS + [HISTORY]), (papers.is_paper, TERMS + [{STRUCK: 1}]),
    (papers.paper, TERMS + [STRUCK]), (kept.is_kept, TERMS), (kept.kept_rules, TERMS),
    (kept.breach, TERMS + [0]), (free.is_free, FREE + [[('put', 'man'), ('drop', 'man')]]), (free.greatest_free, FREE),
    (free.least_bad, FREE), (held.is_enough, FREE + [[('put', 'man'), ('drop', 'man')], [('drop', 'man')]]),
    (held.least_held, FREE + [[('put', 'man'), ('drop', 'man')]]), (held.greatest_idle, TERMS[:3] + [[('put', 'shop'), ('drop', 'town')]]),
    (ways.all_ways, FREE[:1]), (ways.good_ways, FREE[:2] + [[('put', 'man'), ('drop', 'man')]]),
    (needed.least_rules, [SCHEMA, AT + BOOK] + TERMS[2:] + ['shop', AT[0][1]]),
    (needed.greatest_spoilers, [SCHEMA, AT + BOOK] + TERMS[2:] + ['town', ('flag', 'old')]), (mending.is_script, [SCHEMA, SCRIPT]),
    (mending.done, [SCHEMA, ROWS, SCRIPT]), (mending.does_mend, TERMS + [SCRIPT[1:]]), (mending.case_unmended, TERMS + [SCRIPT[:1]]),
    (meeting.always, TERMS + ['town', CONDITION]), (meeting.case_against, TERMS + ['town', CONDITION]),
    (schemas.Schema, [TABLES]), (rows.are_rows, [SCHEMA, ROWS]), (rows.rows_at, [SCHEMA, ROWS, 'town', 'of', 2]),
    (rows.beside, [SCHEMA, ROWS, ROWS]), (conditions.is_condition, [SCHEMA, 'town', CONDITION]),
    (conditions.meets, [SCHEMA, ROWS, 'town', 0, CONDITION]), (conditions.depth, [CONDITION]),
    (conditions.has_parts, ['town', CONDITION]), (texts.format_condition, [CONDITION]), (texts.format_book, [BOOK]),
    (texts.parse_book, [SCHEMA, 'town yes']), (books.is_rule, [SCHEMA, BOOK[0]]), (books.is_book, [SCHEMA, BOOK]),
    (books.broken, [SCHEMA, BOOK, ROWS]), (books.keeps, [SCHEMA, BOOK, ROWS]), (copies.is_copy, [SCHEMA, ROWS, COPY]),
    (copies.copy_rows, [SCHEMA, ROWS, COPY]), (copies.changes_of, [SCHEMA, ROWS, COPY]),
    (copies.unchanged, [SCHEMA, ROWS]), (copies.are_kinds, [SCHEMA, [('put', 'town'), ('drop', 'man')]]),
]


def lists_and_dicts(thing):
    """All lists and dicts in an object, as often as they stand there."""
    parts = list(thing.values()) if isinstance(thing, dict) else thing
    found = [thing] if isinstance(thing, (list, dict)) else []
    if isinstance(thing, (list, tuple, dict)):
        for part in parts:
            found.extend(lists_and_dicts(part))
    return found


class ArgumentsTest(unittest.TestCase):
    def test_arguments_stay(self):
        for call, arguments in CALLS:
            before = copy.deepcopy(arguments)
            call(*arguments)
            self.assertEqual(repr(arguments[1:]), repr(before[1:]), call.__name__)
            self.assertEqual(arguments, before, call.__name__)

    def test_parameters_by_name(self):
        for call, arguments in CALLS:
            names = list(inspect.signature(call).parameters)
            told = call(**dict(zip(names, arguments)))
            self.assertEqual(told, call(*arguments), call.__name__)
            self.assertEqual(len(names), len(arguments))

    def test_order_of_keys(self):
        for call, arguments in CALLS:
            told = call(*arguments)
            self.assertEqual(call(*[turned_round(each) for each in arguments]), told, call.__name__)
            if isinstance(told, dict):
                self.assertEqual(list(told), sorted(told, key=reference_histories.order))

    def test_objects_of_classes_copy_what_they_are_passed(self):
        tables, book, ways, kinds = copy.deepcopy((TABLES, AT, WAYS, SCHEMA.changes))
        schema = schemas.Schema(tables)
        tables.clear()
        store = stores.Store(schema, book, ways, kinds)
        for each in (book, ways, kinds):
            each.clear()
        self.assertEqual(schema, SCHEMA)
        store.begin('a')
        store.put('a', 'shop', (1, 1), (True,))
        with self.assertRaises(errors.BookBroken):
            store.merge(['a'])

    def test_questions_asked_in_turns_are_answered_as_of_fresh_objects(self):
        dice = new_dice()
        asked = [dice.choice(CALLS) for _ in range(400)]
        shared, told = schemas.Schema(turned_round(TABLES)), []
        for call, arguments in asked:
            own = [shared if each is SCHEMA else each for each in arguments]
            fresh = [schemas.Schema(TABLES) if each is SCHEMA else copy.deepcopy(each) for each in arguments]
            answer = call(*own)
            self.assertEqual(answer, call(*fresh), call.__name__)
            # What becomes of an answer means nothing to later ones.
            for each in lists_and_dicts(answer):
                each.clear()
            told.append(call.__name__)
        self.assertGreater(len(set(told)), 50)

    def test_a_shell_asked_in_turns(self):
        lines = ['open a table,t/column,c,k - drop put.t', 'begin a x', 'put a x t 1 -', 'show a x t', 'merge a x', 'show a t', 'stores', 'undo a']
        first, second = shell.Shell(), shell.Shell()
        told = [first.run(line) for line in lines]
        self.assertEqual([second.run(line) for line in lines[:3]], told[:3])
        first.run('close a')
        self.assertEqual([second.run(line) for line in lines[3:]], told[3:])

    def test_lists_and_dicts_are_new_and_stand_once(self):
        for call, arguments in CALLS:
            kept = [call(*arguments), call(*arguments)]
            own = {id(each) for each in lists_and_dicts(arguments)}
            told = lists_and_dicts(kept[0]) + lists_and_dicts(kept[1])
            self.assertEqual(len({id(each) for each in told} - own), len(told), call.__name__)


if __name__ == '__main__':
    unittest.main()
