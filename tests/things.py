"""Objects that the tests share: odd ones, wrong variations of good ones, and random good ones."""

import random

from tests import reference, reference_histories


def nested(levels, kind):
    thing = kind()
    for _ in range(levels - 1):
        thing = kind([thing])
    return thing


THINGS = [
    None, True, False, 0, 1, 2, -1, 10 ** 39, -10 ** 39,
    '', ' ', 'a', 'id', 'at', 'of', 'old', 'open', 'shut', 'town', 'shop', 'yes', 'flag', 'has', 'put', 'drop',
    'TOWN', 'town\n', '\ttown', 'town yes', 'table town', 'nosuch', 'abcdefghi',
    (), (None,), (True,), (1,), ('yes',), ('town',), ('town', 'id'), ('put', 'town'), ('flag', 'old'),
    ('flag', None), ('not', 'yes'), ('has', 'id', 'town', 'id'), (('id', 'town'),), ((), ()), ((1,), (True,)),
    [], [None], [[]], ['yes'], ['town'], ['put', 'town'], [('yes',)], [((1,), (True,))], [('town', ('yes',))],
    {}, {'town': []}, {'town': {}}, {'town': ([], [])}, {'town': None}, {0: 0}, {('a', None): []},
    {'town': ((('id', 'town'),), ())}, {'shop': [], 'town': [], 'x': []}, {1: 'x', 'y': 2, (None, ('z',)): [()]},
    nested(20, tuple), nested(20, list), ['x' * 50] * 1000, 'x' * 100000,
]

REPLACEMENTS = [None, True, False, 0, 1, -1, 10 ** 39, '', 'x', 'yes', 'TOWN', 'abcdefghi', 'town\n', (), [], {}, ('yes',)]


def variations(thing):
    """Objects that differ from an object at one place: by what stands there, or by one part too few or too many."""
    yield from REPLACEMENTS
    if isinstance(thing, dict):
        for key in thing:
            yield {other: thing[other] for other in thing if other != key}
            for worth in variations(thing[key]):
                yield {**thing, key: worth}
        for key in ('nosuch', 0, ('town',)):
            yield {**thing, key: next(iter(thing.values()), None)}
        return
    if not isinstance(thing, (tuple, list)):
        return
    kind, parts = type(thing), list(thing)
    yield list(parts) if kind is tuple else tuple(parts)
    for at in range(len(parts)):
        yield kind(parts[:at] + parts[at + 1:])
        yield kind(parts[:at + 1] + parts[at:])
        yield kind(parts[:at] + parts[at + 1:] + parts[at:at + 1])
        for worth in variations(parts[at]):
            yield kind(parts[:at] + [worth] + parts[at + 1:])
    for more in REPLACEMENTS:
        yield kind(parts + [more])


TABLES = {
    'town': ((('id', 'town'), ('of', 'town')), ('old', 'shut')),
    'shop': ((('at', 'town'), ('by', 'man')), ('open',)),
    'man': ((('id', 'man'),), ()),
}

ROWS = {
    'town': [((1, 2), (True, False)), ((2, 2), (False, False)), ((3, 1), (True, True))],
    'shop': [((1, 7), (True,)), ((9, 8), (False,))],
    'man': [((7,), ()), ((7,), ())],
}

# Each row of one table leads to all of the other, so a look for each row and each level would never end.
LINKED_ROWS = {'town': [((7, 7), (True, False))] * 1500, 'shop': [((7, 7), (False,))] * 1500, 'man': []}


def linked_condition():
    condition = ('flag', 'open')
    for _ in range(6):
        condition = ('has', 'at', 'town', 'of', ('has', 'id', 'shop', 'at', condition))
    return condition


def random_rows(dice, tables, most, greatest):
    rows = {}
    for table, (columns, flags) in tables.items():
        rows[table] = []
        for _ in range(dice.randrange(most + 1)):
            values = tuple([dice.randrange(greatest + 1) for _ in columns])
            rows[table].append((values, tuple([dice.random() < 0.5 for _ in flags])))
    return rows


def random_condition(dice, tables, table, levels):
    columns, flags = tables[table]
    words = ['yes'] + ['flag'] * (3 if flags else 0)
    if levels:
        words += ['has', 'has', 'has', 'not', 'not', 'and', 'or']
    word = dice.choice(words)
    if word == 'yes':
        return ('yes',)
    if word == 'flag':
        return ('flag', dice.choice(flags))
    if word == 'has':
        column, kind = dice.choice(columns)
        other, target = dice.choice([(other, name) for other in tables for name, own in tables[other][0] if own == kind])
        return ('has', column, other, target, random_condition(dice, tables, other, levels - 1))
    many = 1 if word == 'not' else 2
    return (word,) + tuple([random_condition(dice, tables, table, levels - 1) for _ in range(many)])


def random_copy(dice, tables, base, most, greatest):
    """A copy that often does no change of some kinds."""
    copy, put = {}, random_rows(dice, tables, most, greatest)
    quiet = {table: dice.random() < 0.4 for table in tables}
    for table in tables:
        states = []
        for _, flags in base[table]:
            turned = tuple([flag if quiet[table] or dice.random() < 0.6 else not flag for flag in flags])
            states.append(None if not quiet[table] and dice.random() < 0.2 else turned)
        copy[table] = (states, put[table] if dice.random() < 0.5 else [])
    return copy


def turned_round(thing):
    """An equal object whose dicts have their keys in the opposite order."""
    if isinstance(thing, dict):
        return {key: turned_round(thing[key]) for key in reversed(list(thing))}
    if isinstance(thing, (list, tuple)):
        return type(thing)([turned_round(part) for part in thing])
    return thing


def new_dice():
    return random.Random(20)


def random_tables(dice):
    """Tables of a small schema, with few kinds, so that looks often lead somewhere."""
    kinds, tables = dice.choice([('k',), ('k',), ('k', 'm')]), {}
    for table in ('man', 'shop', 'town')[:dice.choice([1, 1, 2, 2, 3])]:
        columns = tuple([(name, dice.choice(kinds)) for name in ('at', 'by', 'of')[:dice.choice([1, 1, 2, 2, 3])]])
        tables[table] = (columns, ('old', 'open')[:dice.choice([0, 0, 1, 1, 1, 2])])
    return tables


def random_book(dice, tables, many_looks):
    """A book with so many looks, but with one at most where a table has two flags."""
    many_looks = min(many_looks, 1 if any(len(flags) > 1 for _, flags in tables.values()) else 2)
    while True:
        owners = [dice.choice(list(tables)) for _ in range(dice.choice([1, 1, 2, 2, 3]))]
        book = [(table, random_condition(dice, tables, table, dice.choice([1, 2, 3]))) for table in owners]
        if len(reference_histories.looks(book)) == many_looks:
            return book


def random_ways(dice, tables):
    words = ('turned', 'on', 'off')
    return {table: (dice.choice(('drop', 'keep')), tuple([dice.choice(words) for _ in tables[table][1]])) for table in tables}


def random_lets(dice, tables):
    part = dice.choice([0, 0.3, 0.6, 1])
    lists = [[kind for kind in reference.changes(tables) if dice.random() < part] for _ in range(2)]
    for kinds in lists:
        dice.shuffle(kinds)
    return (lists[0], list(lists[0]) if dice.random() < 0.3 else lists[1])


def random_terms(dice, many_looks):
    """Random tables, a book, ways and lets of them."""
    tables = random_tables(dice)
    return tables, random_book(dice, tables, many_looks), random_ways(dice, tables), random_lets(dice, tables)


def random_let_copy(dice, tables, base, kinds):
    """A copy that does no other kinds of changes than these."""
    copy = {}
    for table, (states, put) in random_copy(dice, tables, base, 2, 1).items():
        own = []
        for (_, flags), state in zip(base[table], states):
            own.append(state if reference_histories.does_just(tables, table, flags, state, kinds) else flags)
        copy[table] = (own, put if ('put', table) in kinds else [])
    return copy


def wrong_ones(thing, is_right):
    """Odd objects and variations of a right one that are not right themselves."""
    return [each for each in THINGS + list(variations(thing)) if not is_right(each)]


def check_errors(test, call, arguments, faults, dice):
    """Each wrong object gives its error, alone and beside wrong ones for errors that come later.

    The faults are tuples (index of the argument, error, wrong objects) in the order in which the errors apply.
    """
    for place, (at, error, wrong) in enumerate(faults):
        for thing in wrong:
            for many in (0, 1, 2):
                asked = list(arguments)
                for later, _, others in dice.sample(faults[place + 1:], min(many, len(faults) - place - 1)):
                    asked[later] = dice.choice(others)
                asked[at] = thing
                with test.assertRaises(error) as caught:
                    call(*asked)
                test.assertIs(type(caught.exception), error)


def random_asked(dice):
    """What random_terms tells, and a table and a condition of it, with not too many looks in all."""
    tables, book, ways, lets = random_terms(dice, dice.choice([0, 0, 1, 1, 2]))
    most = 1 if any(len(flags) > 1 for _, flags in tables.values()) else 2
    while True:
        table = dice.choice(list(tables))
        condition = random_condition(dice, tables, table, dice.choice([1, 2, 3]))
        if len(reference_histories.looks(book + [(table, condition)])) <= most:
            return tables, book, ways, lets, table, condition


def random_deed(dice, tables):
    table = dice.choice(list(tables))
    condition = random_condition(dice, tables, table, dice.choice([0, 1, 2, 2]))
    flags = tables[table][1]
    if flags and dice.random() < 0.5:
        return ('set', table, dice.choice(flags), condition)
    return ('drop', table, condition)


def random_script(dice, tables, book):
    """A script that has, with a book, not too many looks in all."""
    most = 1 if any(len(flags) > 1 for _, flags in tables.values()) else 2
    while True:
        script = [random_deed(dice, tables) for _ in range(dice.choice([0, 1, 1, 2, 2, 2]))]
        many = [len(reference_histories.looks([(deed[1], deed[-1])])) for deed in script]
        if len(reference_histories.looks(book)) + sum(many) <= most:
            return script
