"""What the document says, told again in the plainest way; slow, and apart from the package."""

import re

NO_NAMES = {'and', 'or', 'not', 'has', 'yes', 'flag'}


def is_name(thing):
    return type(thing) is str and re.fullmatch('[a-z]{1,8}', thing) is not None and thing not in NO_NAMES


def is_tuple(thing, *tests):
    return type(thing) is tuple and len(thing) == len(tests) and all(test(part) for test, part in zip(tests, thing))


def is_tuple_of(thing, low, high, test):
    return type(thing) is tuple and low <= len(thing) <= high and all(test(part) for part in thing)


def is_list_of(thing, test):
    return type(thing) is list and all(test(part) for part in thing)


def is_column(thing):
    return is_tuple(thing, is_name, is_name)


def is_table(thing):
    if not is_tuple(thing, lambda it: is_tuple_of(it, 1, 3, is_column), lambda it: is_tuple_of(it, 0, 2, is_name)):
        return False
    names = [column[0] for column in thing[0]] + list(thing[1])
    return all(names.count(name) == 1 for name in names)


def are_tables(thing):
    return type(thing) is dict and 1 <= len(thing) <= 4 and all(is_name(key) and is_table(thing[key]) for key in thing)


def is_value(thing):
    return type(thing) is int and thing >= 0


def is_bool(thing):
    return thing is True or thing is False


def is_state(tables, table, thing):
    return is_tuple(thing, *[is_bool for _ in tables[table][1]])


def is_row(tables, table, thing):
    values = [is_value for _ in tables[table][0]]
    return is_tuple(thing, lambda it: is_tuple(it, *values), lambda it: is_state(tables, table, it))


def are_rows(tables, thing):
    return type(thing) is dict and set(thing) == set(tables) and all(
        is_list_of(thing[table], lambda it: is_row(tables, table, it)) for table in tables)


def kind_of(tables, table, column):
    return {name: kind for name, kind in tables[table][0]}[column]


def is_condition(tables, table, thing):
    def is_own(part):
        return is_condition(tables, table, part)

    def is_word(word):
        return lambda part: type(part) is str and part == word

    def is_flag(part):
        return type(part) is str and part in tables[table][1]

    if is_tuple(thing, is_word('yes')) or is_tuple(thing, is_word('flag'), is_flag) \
            or is_tuple(thing, is_word('not'), is_own) or is_tuple(thing, is_word('and'), is_own, is_own) \
            or is_tuple(thing, is_word('or'), is_own, is_own):
        return True
    if not is_tuple(thing, is_word('has'), is_name, is_name, is_name, lambda part: True):
        return False
    _, column, other, target, inner = thing
    places = {(key, name): kind for key in tables for name, kind in tables[key][0]}
    if (table, column) not in places or (other, target) not in places:
        return False
    return places[(table, column)] == places[(other, target)] and is_condition(tables, other, inner)


def meets(tables, rows, table, row, condition):
    word = condition[0]
    if word == 'yes':
        return True
    if word == 'flag':
        return row[1][tables[table][1].index(condition[1])]
    if word == 'not':
        return not meets(tables, rows, table, row, condition[1])
    if word == 'and':
        return all([meets(tables, rows, table, row, part) for part in condition[1:]])
    if word == 'or':
        return any([meets(tables, rows, table, row, part) for part in condition[1:]])
    _, column, other, target, inner = condition
    value = row[0][[name for name, _ in tables[table][0]].index(column)]
    at = [name for name, _ in tables[other][0]].index(target)
    return any([own[0][at] == value and meets(tables, rows, other, own, inner) for own in rows[other]])


def read_condition(tables, table, words):
    """The condition that stands first in the words, and the words behind it; None if there is none."""
    many = {'yes': 1, 'flag': 2, 'has': 4, 'not': 1, 'and': 1, 'or': 1}.get(words[0] if words else '')
    if many is None or len(words) < many:
        return None
    inside = words[2] if words[0] == 'has' else table
    parts, rest = list(words[:many]), words[many:]
    if inside not in tables:
        return None
    for _ in range({'yes': 0, 'flag': 0, 'and': 2, 'or': 2}.get(words[0], 1)):
        found = read_condition(tables, inside, rest)
        if found is None:
            return None
        parts.append(found[0])
        rest = found[1]
    return (tuple(parts), rest) if is_condition(tables, table, tuple(parts)) else None


def condition_of(tables, table, text):
    found = read_condition(tables, table, text.split(' '))
    return None if found is None or found[1] else found[0]


def is_book(tables, thing):
    return is_list_of(thing, lambda it: is_rule(tables, it)) and len(thing) <= 6


def is_rule(tables, thing):
    if not is_tuple(thing, lambda it: type(it) is str and it in tables, lambda it: True):
        return False
    return is_condition(tables, thing[0], thing[1])


def is_copy(tables, base, thing):
    if type(thing) is not dict or set(thing) != set(tables):
        return False
    return all(is_tuple(
        thing[table],
        lambda states: is_list_of(states, lambda it: it is None or is_state(tables, table, it))
        and len(states) == len(base[table]),
        lambda put: is_list_of(put, lambda it: is_row(tables, table, it))) for table in tables)


def changes(tables):
    found = [(word, table) for word in ('put', 'drop') for table in tables]
    return sorted(found + [(word, table, flag) for word in ('on', 'off') for table in tables for flag in tables[table][1]])


def does(tables, base, copy, kind):
    word, table = kind[:2]
    states, put = copy[table]
    if word == 'put':
        return put != []
    there = [(flags, state) for (_, flags), state in zip(base[table], states) if state is not None]
    if word == 'drop':
        return len(there) < len(states)
    at = tables[table][1].index(kind[2])
    return (word == 'off', word == 'on') in [(flags[at], state[at]) for flags, state in there]


def are_kinds(tables, thing):
    return is_list_of(thing, lambda it: type(it) is tuple and it in changes(tables)) and all(
        thing.count(kind) == 1 for kind in thing)
