"""Books at the edges that the document names, each with its tables and ways."""

from tests import reference

YES, NEVER = ('yes',), ('not', ('yes',))

# One table without flags, one with two, and four tables, of which one has two flags.
PLAIN = {'town': ((('id', 'town'), ('of', 'town')), ())}
FLAGS = {'town': ((('id', 'town'),), ('busy', 'shut'))}
SHOPS = {'shop': ((('at', 'town'), ('by', 'town')), ('open',)), 'town': ((('id', 'town'), ('of', 'town')), ('old',))}
FOUR = {
    'man': ((('id', 'man'),), ()), 'shop': ((('at', 'town'), ('by', 'man')), ()),
    'town': ((('id', 'town'),), ('old',)), 'ware': ((('in', 'town'),), ('busy', 'shut')),
}

AT = ('has', 'at', 'town', 'id', ('flag', 'old'))
BY = ('has', 'by', 'shop', 'at', ('not', ('flag', 'open')))
SELF = ('has', 'of', 'town', 'id', YES)
BOTH = ('and', ('flag', 'busy'), ('flag', 'shut'))

BOOKS = [
    ('no rules', PLAIN, []),
    ('no rules of two flags', FLAGS, []),
    ('rules that no row meets', PLAIN, [('town', NEVER)]),
    ('rules that all rows meet', FLAGS, [('town', ('or', ('flag', 'busy'), ('not', ('flag', 'busy')))), ('town', YES)]),
    ('two flags', FLAGS, [('town', ('not', BOTH))]),
    ('two flags and a look', FLAGS, [('town', ('or', ('flag', 'busy'), ('has', 'id', 'town', 'id', ('flag', 'shut'))))]),
    ('a look at the own table', PLAIN, [('town', SELF)]),
    ('a look that finds nothing', PLAIN, [('town', ('not', SELF))]),
    ('a look', SHOPS, [('shop', AT)]),
    ('two looks of one table', SHOPS, [('shop', ('or', AT, BY))]),
    ('two looks of two tables', SHOPS, [('shop', AT), ('town', ('or', ('flag', 'old'), SELF))]),
    ('a look within a look', SHOPS, [('shop', ('has', 'at', 'town', 'id', ('has', 'of', 'town', 'of', ('flag', 'old'))))]),
    ('a look within its own table', SHOPS, [('town', ('has', 'of', 'town', 'id', ('or', ('flag', 'old'), ('not', SELF))))]),
    ('no town is possible', SHOPS, [('town', ('has', 'of', 'town', 'id', ('not', SELF)))]),
    ('four tables', FOUR, [('shop', AT), ('ware', ('or', ('not', BOTH), ('flag', 'busy')))]),
    ('six rules', FOUR, [('shop', AT)] * 2 + [('ware', ('not', BOTH)), ('town', YES), ('man', NEVER), ('shop', YES)]),
]


def all_ways_of(tables, dice):
    """Ways of each kind for all tables, and some that differ between them."""
    words = ('turned', 'on', 'off')
    found = [{table: (drop, (word,) * len(flags)) for table, (_, flags) in tables.items()}
             for drop in ('drop', 'keep') for word in words]
    return found + [{table: (dice.choice(('drop', 'keep')), tuple(dice.choice(words) for _ in flags))
                     for table, (_, flags) in tables.items()}]


def kinds_of(tables, dice, most):
    """Lists of at most so many kinds: none, one, as many as may be, and one of a number between."""
    kinds, found = reference.changes(tables), [[]]
    for many in (1, most, dice.randint(1, most)):
        found.append(dice.sample(kinds, min(many, len(kinds))))
    return found
