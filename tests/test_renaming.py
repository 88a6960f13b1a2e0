"""What is told goes over when all names are given anew, also when these are words that mean something elsewhere."""

import unittest

from rulesmerged import free, held, histories, kept, left, looks, meeting, mending, needed, papers, texts, ways
from rulesmerged.schemas import Schema
from tests import reference
from tests.things import new_dice, random_asked, random_script

NAMES = ['put', 'drop', 'on', 'off', 'keep', 'turned', 'set', 'table', 'column', 'none', 'ok', 'open', 'stores', 'merge', 'a', 'z', 'zz', 'abcdefgh']


class Renaming:
    """New names for all tables, columns, flags and kinds of columns of tables."""

    def __init__(self, dice, tables):
        kinds = sorted({kind for columns, _ in tables.values() for _, kind in columns})
        self.of_tables = dict(zip(tables, dice.sample(NAMES, len(tables))))
        self.of_kinds = dict(zip(kinds, dice.sample(NAMES, len(kinds))))
        self.own = {}
        for table, (columns, flags) in tables.items():
            own = [name for name, _ in columns] + list(flags)
            self.own[table] = dict(zip(own, dice.sample(NAMES, len(own))))

    def tables(self, tables):
        return {self.of_tables[table]: (tuple([(self.own[table][name], self.of_kinds[kind]) for name, kind in columns]),
                                        tuple([self.own[table][flag] for flag in flags])) for table, (columns, flags) in tables.items()}

    def by_table(self, thing):
        return {self.of_tables[table]: thing[table] for table in thing}

    def condition(self, table, condition):
        word = condition[0]
        if word == 'flag':
            return ('flag', self.own[table][condition[1]])
        if word == 'has':
            _, column, other, target, inner = condition
            return ('has', self.own[table][column], self.of_tables[other], self.own[other][target], self.condition(other, inner))
        return (word,) + tuple([self.condition(table, part) for part in condition[1:]])

    def look(self, look):
        return (self.of_tables[look[0]],) + self.condition(look[0], ('has',) + look[1:])[1:]

    def book(self, book):
        return [(self.of_tables[table], self.condition(table, condition)) for table, condition in book]

    def kinds(self, kinds):
        return [(word, self.of_tables[table]) + tuple([self.own[table][flag] for flag in flags]) for word, table, *flags in kinds]

    def script(self, script):
        return [(word, self.of_tables[table]) + tuple([self.own[table][flag] for flag in flags]) + (self.condition(table, condition),)
                for word, table, *flags, condition in script]

    def history(self, history):
        return (self.of_tables[history[0]],) + history[1:]

    def row(self, row):
        return (self.of_tables[row[0]],) + row[1:]


def unordered(lists):
    return sorted([sorted(each) for each in lists])


class RenamingTest(unittest.TestCase):
    def setUp(self):
        self.dice = new_dice()
        self.asked = []
        for _ in range(120):
            tables, book, own_ways, lets, table, condition = random_asked(self.dice)
            new = Renaming(self.dice, tables)
            terms = (Schema(tables), book, own_ways, lets)
            renamed = (Schema(new.tables(tables)), new.book(book), new.by_table(own_ways), tuple(new.kinds(kinds) for kinds in lets))
            self.asked.append((tables, new, terms, renamed, table, condition))

    def test_schemas_and_looks(self):
        for tables, new, terms, renamed, _, _ in self.asked:
            self.assertEqual(renamed[0].changes, sorted(new.kinds(terms[0].changes)))
            self.assertEqual(looks.looks(*renamed[:2]), [new.look(each) for each in looks.looks(*terms[:2])])
            self.assertEqual(texts.parse_schema(texts.format_schema(renamed[0])), renamed[0])
            self.assertEqual(texts.parse_book(renamed[0], texts.format_book(renamed[1])), renamed[1])

    def test_row_histories(self):
        for tables, new, terms, renamed, _, _ in self.asked[:60]:
            for table in tables:
                told = histories.histories(*terms, table)
                self.assertEqual(histories.histories(*renamed, new.of_tables[table]), [new.history(each) for each in told])
                told = left.histories_left(*terms, table)
                self.assertEqual(left.histories_left(*renamed, new.of_tables[table]), [new.history(each) for each in told])
                for history in told[:2]:
                    base, copies, row = left.case_with(*terms, history)
                    again = (new.by_table(base), [new.by_table(copy) for copy in copies], new.row(row))
                    self.assertEqual(histories.history_on(*renamed, *again), new.history(history))
            rounds = left.rounds_of_histories(*terms)
            self.assertEqual(left.rounds_of_histories(*renamed), {new.history(each): rounds[each] for each in rounds})
            for history in list(rounds)[:1]:
                own = papers.paper(*terms, history)
                self.assertIs(papers.is_paper(*renamed, {new.history(each): own[each] for each in own}), True)

    def test_what_is_kept_free_held_and_good(self):
        for tables, new, terms, renamed, _, _ in self.asked:
            self.assertEqual(kept.kept_rules(*renamed), kept.kept_rules(*terms))
            kinds = terms[3][0][:4]
            for call in (held.least_held, held.greatest_idle):
                told = [new.kinds(each) for each in call(*terms[:3], kinds)]
                self.assertEqual(call(*renamed[:3], new.kinds(kinds)), unordered(told))
            if len(terms[0].changes) <= 6:
                for call in (free.greatest_free, free.least_bad):
                    self.assertEqual(call(*renamed[:3]), unordered([new.kinds(each) for each in call(*terms[:3])]))
            if len(tables) <= 2 and sum(len(flags) for _, flags in tables.values()) <= 2:
                told = [new.by_table(each) for each in ways.good_ways(*terms[:2], kinds)]
                again = ways.good_ways(*renamed[:2], new.kinds(kinds))
                self.assertEqual(sorted(map(sorted, map(dict.items, again))), sorted(map(sorted, map(dict.items, told))))

    def test_what_is_met_needed_and_mended(self):
        for tables, new, terms, renamed, table, condition in self.asked:
            own, again = (table, condition), (new.of_tables[table], new.condition(table, condition))
            for call in (meeting.always, needed.least_rules, needed.greatest_spoilers):
                self.assertEqual(call(*renamed, *again), call(*terms, *own))
            script = random_script(self.dice, tables, terms[1])
            self.assertEqual(mending.does_mend(*renamed, new.script(script)), mending.does_mend(*terms, script))
            case = mending.case_unmended(*terms, script)
            if case is not None:
                base, copies = new.by_table(case[0]), [new.by_table(copy) for copy in case[1]]
                self.assertIs(histories.is_case(*renamed, base, copies), True)

    def test_new_names_are_names_and_differ(self):
        self.assertTrue(all(reference.is_name(name) for name in NAMES))
        self.assertEqual(len(set(NAMES)), len(NAMES))


if __name__ == '__main__':
    unittest.main()
