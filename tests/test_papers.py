import unittest

from rulesmerged.errors import InvalidBook, InvalidHistory, InvalidLets, InvalidWays
from rulesmerged.histories import histories
from rulesmerged.left import histories_left, rounds_of_histories
from rulesmerged.papers import is_paper, paper
from rulesmerged.schemas import Schema
from tests import reference, reference_histories
from tests.test_left import AT, AT_LETS, AT_SCHEMA, AT_TABLES, BOOK, NONE, SCHEMA, TABLES, WAYS, F, T, shop, town
from tests.things import THINGS, check_errors, new_dice, random_terms, turned_round, wrong_ones

ROUNDS = {shop(T, T, T, F): 1, shop(T, T, T, T): 2, town(F, F, F, F): 1, town(F, F, F, T): 1}
BIG = 10 ** 39


def told(thing):
    return is_paper(SCHEMA, BOOK, WAYS, NONE, thing)


def is_right(striking, numbers):
    """Whether row histories with numbers from 1 on are a paper, by the plain words."""
    for number in set(numbers.values()):
        would = striking.struck_next({each: True for each in numbers if numbers[each] < number})
        if not all(each in would for each in numbers if numbers[each] == number):
            return False
    return True


class IsPaperTest(unittest.TestCase):
    def test_rounds_and_parts_of_them(self):
        self.assertIs(told(ROUNDS), True)
        self.assertIs(told(turned_round(ROUNDS)), True)
        self.assertIs(is_paper(schema=SCHEMA, book=BOOK, ways=WAYS, lets=NONE, thing={}), True)
        for history in ROUNDS:
            if ROUNDS[history] == 1:
                self.assertIs(told({history: 1}), True)
                # A shop at towns is struck only if all towns were struck ahead of it.
                self.assertIs(told({each: ROUNDS[each] for each in ROUNDS if each != history}), history[0] == 'shop')

    def test_numbers_greater_than_the_round_and_gaps(self):
        for numbers in ((1, 7, 1, 1), (5, 7, 6, 6), (9, BIG, 1, BIG - 1), (BIG, 4, 3, 2)):
            self.assertIs(told(dict(zip(ROUNDS, numbers))), True, numbers)

    def test_numbers_that_are_too_small(self):
        # Shops stand as long as towns do, and both of these give what shops look for.
        for numbers in ((1, 1, 1, 1), (1, 1, 2, 2), (1, 2, 2, 1), (1, 3, 1, 3), (1, 7, 8, 1), (BIG, BIG, BIG, BIG)):
            self.assertIs(told(dict(zip(ROUNDS, numbers))), False, numbers)
        self.assertIs(told({shop(T, T, T, T): 1}), False)
        self.assertIs(told({shop(T, T, T, T): 2}), False)

    def test_other_objects_as_numbers(self):
        for number in (0, -1, True, False, None, '1', (1,), [1], {}, -BIG):
            self.assertIs(told({town(F, F, F, F): number}), False, number)
            self.assertIs(told({**ROUNDS, town(F, F, F, F): number}), False, number)

    def test_row_histories_that_are_none_or_left(self):
        for thing in (town(T, F, F, F), town(F, F, F), 'town', 1, None, ('town', None), shop(F, T, T, T), ()):
            self.assertIs(told({thing: 1}), False, thing)
            self.assertIs(told({**ROUNDS, thing: 3}), False, thing)
        one = ('town', ((), (), (), ()), ((0,), F, F, F))
        self.assertEqual(one, town(F, F, F, F))
        self.assertIs(told({one: 1}), False)
        for history in histories_left(AT_SCHEMA, AT, WAYS, AT_LETS, 'shop'):
            self.assertIs(is_paper(AT_SCHEMA, AT, WAYS, AT_LETS, {history: 1}), False)
            struck = rounds_of_histories(AT_SCHEMA, AT, WAYS, AT_LETS)
            self.assertIs(is_paper(AT_SCHEMA, AT, WAYS, AT_LETS, struck), True)
            self.assertIs(is_paper(AT_SCHEMA, AT, WAYS, AT_LETS, {**struck, history: 9}), False)

    def test_any_object(self):
        for thing in THINGS + [[town(F, F, F, F)], [(town(F, F, F, F), 1)], (), ((town(F, F, F, F), 1),)]:
            self.assertIs(told(thing), thing == {}, repr(thing)[:60])

    def test_random_numbers(self):
        dice, answers = new_dice(), []
        for many in [1, 1, 2] * 70:
            tables, book, ways, lets = random_terms(dice, many)
            schema = Schema(tables)
            total = sum([len(histories(schema, book, ways, lets, table)) for table in tables])
            rounds = rounds_of_histories(schema, book, ways, lets)
            if not rounds or total * 16 ** many > 20000:
                continue
            striking = reference_histories.Striking(tables, book, ways, lets)
            for _ in range(4):
                numbers = {each: number + dice.choice([0, 0, 0, 1, 3]) for each, number in rounds.items()}
                if dice.random() < 0.5:
                    numbers = {each: numbers[each] for each in dice.sample(list(numbers), len(numbers) - len(numbers) // 5)}
                if dice.random() < 0.5:
                    numbers[dice.choice(list(numbers))] = 1
                if dice.random() < 0.2:
                    numbers[dice.choice(striking.histories)] = dice.choice([1, 2, 9])
                answers.append(is_paper(schema, book, ways, lets, turned_round(numbers)))
                self.assertIs(answers[-1], is_right(striking, numbers))
        self.assertGreater(min(answers.count(True), answers.count(False)), 30)


class PaperTest(unittest.TestCase):
    def test_none_for_what_is_left(self):
        for history in histories_left(AT_SCHEMA, AT, WAYS, AT_LETS, 'shop') + histories_left(AT_SCHEMA, AT, WAYS, AT_LETS, 'town'):
            self.assertIsNone(paper(AT_SCHEMA, AT, WAYS, AT_LETS, history))

    def test_papers(self):
        for history in ROUNDS:
            found = paper(SCHEMA, BOOK, WAYS, NONE, history)
            self.assertIn(history, found)
            self.assertEqual(list(found), sorted(found))
            self.assertIs(told(found), True)
            paper(schema=SCHEMA, book=BOOK, ways=WAYS, lets=NONE, history=history).clear()
            self.assertEqual(paper(SCHEMA, BOOK, WAYS, NONE, history), found)

    def test_random_terms(self):
        dice, many_papers = new_dice(), 0
        for many in [1, 2] * 60:
            tables, book, ways, lets = random_terms(dice, many)
            schema = Schema(tables)
            rounds = rounds_of_histories(schema, book, ways, lets)
            for history in dice.sample(list(rounds), min(4, len(rounds))):
                found = paper(schema, book, turned_round(ways), lets, history)
                self.assertIn(history, found)
                self.assertEqual(list(found), sorted(found, key=reference_histories.order))
                self.assertIs(is_paper(schema, book, ways, lets, found), True)
                many_papers += 1
            table = dice.choice(list(tables))
            for history in histories_left(schema, book, ways, lets, table)[:3]:
                self.assertIsNone(paper(schema, book, ways, lets, history))
        self.assertGreater(many_papers, 100)


class ErrorsTest(unittest.TestCase):
    def test_errors_in_their_order_for_any_objects(self):
        dice, terms = new_dice(), [SCHEMA, BOOK, WAYS, AT_LETS]
        faults = [
            (1, InvalidBook, dice.sample(wrong_ones(BOOK, lambda each: reference.is_book(TABLES, each)), 70)),
            (2, InvalidWays, dice.sample(wrong_ones(WAYS, lambda each: reference_histories.are_ways(AT_TABLES, each)), 70)),
            (3, InvalidLets, dice.sample(wrong_ones(AT_LETS, lambda each: reference_histories.are_lets(TABLES, each)), 70)),
        ]
        history = shop(T, T, T, T)
        wrong = wrong_ones(history, lambda each: reference_histories.is_history(TABLES, BOOK, WAYS, AT_LETS, each))
        check_errors(self, is_paper, terms + [ROUNDS], faults, dice)
        check_errors(self, paper, terms + [history], faults + [(4, InvalidHistory, wrong)], dice)


if __name__ == '__main__':
    unittest.main()
