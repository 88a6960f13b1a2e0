"""Objects that the tests share: odd ones, wrong variations of good ones, and random good ones."""

import random


def nested(levels, kind):
    thing = kind()
    for _ in range(levels - 1):
        thing = kind([thing])
    return thing


THINGS = [
    None, True, False, 0, 1, 2, -1, 10 ** 39, -10 ** 39,
    '', ' ', 'a', 'id', 'at', 'of', 'old', 'open', 'shut', 'town', 'shop', 'yes', 'flag', 'has', 'put', 'drop',
    'TOWN', 'town\n', '\ttown', 'town yes', 'table town', 'nosuch', 'abcdefghi',
    (), (None,), (True,), (1,), ('yes',), ('town',), ('town', 'id'), ('put', 'town'), ('flag', 'old'),
    ('flag', None), ('not', 'yes'), ('has', 'id', 'town', 'id'), (('id', 'town'),), ((), ()), ((1,), (True,)),
    [], [None], [[]], ['yes'], ['town'], ['put', 'town'], [('yes',)], [((1,), (True,))], [('town', ('yes',))],
    {}, {'town': []}, {'town': {}}, {'town': ([], [])}, {'town': None}, {0: 0}, {('a', None): []},
    {'town': ((('id', 'town'),), ())}, {'shop': [], 'town': [], 'x': []}, {1: 'x', 'y': 2, (None, ('z',)): [()]},
    nested(20, tuple), nested(20, list), ['x' * 50] * 1000, 'x' * 100000,
]

REPLACEMENTS = [None, True, False, 0, 1, -1, 10 ** 39, '', 'x', 'yes', 'TOWN', 'abcdefghi', 'town\n', (), [], {}, ('yes',)]


def variations(thing):
    """Objects that differ from an object at one place: by what stands there, or by one part too few or too many."""
    yield from REPLACEMENTS
    if isinstance(thing, dict):
        for key in thing:
            yield {other: thing[other] for other in thing if other != key}
            for worth in variations(thing[key]):
                yield {**thing, key: worth}
        for key in ('nosuch', 0, ('town',)):
            yield {**thing, key: next(iter(thing.values()), None)}
        return
    if not isinstance(thing, (tuple, list)):
        return
    kind, parts = type(thing), list(thing)
    yield list(parts) if kind is tuple else tuple(parts)
    for at in range(len(parts)):
        yield kind(parts[:at] + parts[at + 1:])
        yield kind(parts[:at + 1] + parts[at:])
        yield kind(parts[:at] + parts[at + 1:] + parts[at:at + 1])
        for worth in variations(parts[at]):
            yield kind(parts[:at] + [worth] + parts[at + 1:])
    for more in REPLACEMENTS:
        yield kind(parts + [more])


TABLES = {
    'town': ((('id', 'town'), ('of', 'town')), ('old', 'shut')),
    'shop': ((('at', 'town'), ('by', 'man')), ('open',)),
    'man': ((('id', 'man'),), ()),
}

ROWS = {
    'town': [((1, 2), (True, False)), ((2, 2), (False, False)), ((3, 1), (True, True))],
    'shop': [((1, 7), (True,)), ((9, 8), (False,))],
    'man': [((7,), ()), ((7,), ())],
}

# Each row of one table leads to all of the other, so a look for each row and each level would never end.
LINKED_ROWS = {'town': [((7, 7), (True, False))] * 1500, 'shop': [((7, 7), (False,))] * 1500, 'man': []}


def linked_condition():
    condition = ('flag', 'open')
    for _ in range(6):
        condition = ('has', 'at', 'town', 'of', ('has', 'id', 'shop', 'at', condition))
    return condition


def random_rows(dice, tables, most, greatest):
    rows = {}
    for table, (columns, flags) in tables.items():
        rows[table] = []
        for _ in range(dice.randrange(most + 1)):
            values = tuple([dice.randrange(greatest + 1) for _ in columns])
            rows[table].append((values, tuple([dice.random() < 0.5 for _ in flags])))
    return rows


def random_condition(dice, tables, table, levels):
    columns, flags = tables[table]
    words = ['yes'] + ['flag'] * (3 if flags else 0)
    if levels:
        words += ['has', 'has', 'has', 'not', 'not', 'and', 'or']
    word = dice.choice(words)
    if word == 'yes':
        return ('yes',)
    if word == 'flag':
        return ('flag', dice.choice(flags))
    if word == 'has':
        column, kind = dice.choice(columns)
        other, target = dice.choice([(other, name) for other in tables for name, own in tables[other][0] if own == kind])
        return ('has', column, other, target, random_condition(dice, tables, other, levels - 1))
    many = 1 if word == 'not' else 2
    return (word,) + tuple([random_condition(dice, tables, table, levels - 1) for _ in range(many)])


def random_copy(dice, tables, base, most, greatest):
    """A copy that often does no change of some kinds."""
    copy, put = {}, random_rows(dice, tables, most, greatest)
    quiet = {table: dice.random() < 0.4 for table in tables}
    for table in tables:
        states = []
        for _, flags in base[table]:
            turned = tuple([flag if quiet[table] or dice.random() < 0.6 else not flag for flag in flags])
            states.append(None if not quiet[table] and dice.random() < 0.2 else turned)
        copy[table] = (states, put[table] if dice.random() < 0.5 else [])
    return copy


def turned_round(thing):
    """An equal object whose dicts have their keys in the opposite order."""
    if isinstance(thing, dict):
        return {key: turned_round(thing[key]) for key in reversed(list(thing))}
    if isinstance(thing, (list, tuple)):
        return type(thing)([turned_round(part) for part in thing])
    return thing


def new_dice():
    return random.Random(20)
