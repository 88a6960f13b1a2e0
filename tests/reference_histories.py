"""What the document says of merges, row histories and what is built on them, in the plainest way; slow, and apart."""

import itertools

from tests import reference

BOOLS = (False, True)


def are_ways(tables, thing):
    if type(thing) is not dict or set(thing) != set(tables):
        return False
    return all(reference.is_tuple(
        thing[table],
        lambda drop: type(drop) is str and drop in ('drop', 'keep'),
        lambda words: type(words) is tuple and len(words) == len(tables[table][1])
        and all(type(word) is str and word in ('turned', 'on', 'off') for word in words)) for table in tables)


def are_lets(tables, thing):
    return reference.is_tuple(thing, *[lambda kinds: reference.are_kinds(tables, kinds)] * 2)


def merged_state(way, base, states):
    """The state in the merge of one row of the base, whose states in the copies are these."""
    if not states:
        return base
    drop, words = way
    there = [state for state in states if state is not None]
    if not there or (drop == 'drop' and None in states):
        return None
    flags = []
    for at, word in enumerate(words):
        own = [state[at] for state in there]
        if word == 'turned':
            flags.append(base[at] if all(flag == base[at] for flag in own) else not base[at])
        else:
            flags.append(any(own) if word == 'on' else all(own))
    return tuple(flags)


def merged(tables, ways, base, copies):
    merge = {}
    for table in sorted(tables):
        states = []
        for index, (_, flags) in enumerate(base[table]):
            states.append(merged_state(ways[table], flags, [copy[table][0][index] for copy in copies]))
        merge[table] = (states, [row for copy in copies for row in copy[table][1]])
    return merge


def copy_rows(tables, base, copy):
    rows = {}
    for table in tables:
        states, put = copy[table]
        own = [(values, state) for (values, _), state in zip(base[table], states) if state is not None]
        rows[table] = own + put
    return rows


def keeps(tables, book, rows):
    return all(reference.meets(tables, rows, table, row, condition) for table, condition in book for row in rows[table])


def fewest_breaking(tables, book, ways, base, copies):
    for many in range(len(copies) + 1):
        for chosen in itertools.combinations(range(len(copies)), many):
            merge = merged(tables, ways, base, [copies[at] for at in chosen])
            if not keeps(tables, book, copy_rows(tables, base, merge)):
                return list(chosen)
    return None


def looks_in(table, condition):
    word = condition[0]
    if word == 'has':
        return [(table,) + condition[1:]] + looks_in(condition[2], condition[4])
    if word in ('not', 'and', 'or'):
        return [look for part in condition[1:] for look in looks_in(table, part)]
    return []


def looks(book):
    found = []
    for table, condition in book:
        for look in looks_in(table, condition):
            if look not in found:
                found.append(look)
    return found


def kind_of_look(tables, look):
    return reference.kind_of(tables, look[0], look[1])


def own_meets(tables, book, table, flags, answers, condition):
    """Whether a row meets a condition by its flags and by its answers to the looks of its table."""
    word = condition[0]
    if word == 'yes':
        return True
    if word == 'flag':
        return flags[tables[table][1].index(condition[1])]
    if word == 'not':
        return not own_meets(tables, book, table, flags, answers, condition[1])
    if word in ('and', 'or'):
        told = [own_meets(tables, book, table, flags, answers, part) for part in condition[1:]]
        return all(told) if word == 'and' else any(told)
    own = [look for look in looks(book) if look[0] == table]
    return answers[own.index((table,) + condition[1:])]


def all_flags(tables, table):
    return list(itertools.product(BOOLS, repeat=len(tables[table][1])))


def does_just(tables, table, flags, state, kinds):
    if state is None:
        return ('drop', table) in kinds
    turns = [('on' if state[at] else 'off', table, flag) for at, flag in enumerate(tables[table][1]) if state[at] != flags[at]]
    return all(turn in kinds for turn in turns)


def are_states(tables, ways, lets, table, states):
    base, first, second, merge = states
    if base is None:
        return (first is None) != (second is None) and merge == (second if first is None else first) \
            and ('put', table) in lets[1 if first is None else 0]
    if not does_just(tables, table, base, first, lets[0]) or not does_just(tables, table, base, second, lets[1]):
        return False
    return merge == merged_state(ways[table], base, [first, second])


def keeps_rules(tables, book, table, flags, answers):
    return all(own_meets(tables, book, table, flags, answers, condition) for own, condition in book if own == table)


def histories(tables, book, ways, lets, table):
    """All row histories of a table, in no special order."""
    own = [look for look in looks(book) if look[0] == table]
    all_answers = list(itertools.product(BOOLS, repeat=len(own)))
    found = []
    for states in itertools.product([None] + all_flags(tables, table), repeat=4):
        if are_states(tables, ways, lets, table, states):
            choices = []
            for version, state in enumerate(states):
                allowed = [None] if state is None else [
                    answers for answers in all_answers
                    if version == 3 or keeps_rules(tables, book, table, state, answers)]
                choices.append(allowed)
            found.extend([(table, states, answers) for answers in itertools.product(*choices)])
    return found


def order(thing):
    """A key by which None comes first and all else in the order in which Python sorts it."""
    if thing is None:
        return (0,)
    return (1, tuple(order(part) for part in thing)) if type(thing) is tuple else (1, thing)


def is_history(tables, book, ways, lets, thing):
    own_tables = [table for table in tables if type(thing) is tuple and thing and type(thing[0]) is str and thing[0] == table]
    return any(same(thing, each) for table in own_tables for each in histories(tables, book, ways, lets, table))


def same(thing, other):
    """Whether objects are equal and of equal kinds throughout: 1 is not True here."""
    if type(thing) is not type(other):
        return False
    if type(thing) in (tuple, list):
        return len(thing) == len(other) and all(same(*pair) for pair in zip(thing, other))
    return thing == other


def meetings(tables, book, kind):
    many = len([look for look in looks(book) if kind_of_look(tables, look) == kind])
    return [(kind, answers) for answers in itertools.product(list(itertools.product(BOOLS, repeat=many)), repeat=4)]


def is_meeting(tables, book, thing):
    kinds = {kind for columns, _ in tables.values() for _, kind in columns}
    own = [kind for kind in kinds if type(thing) is tuple and thing and type(thing[0]) is str and thing[0] == kind]
    return any(same(thing, each) for kind in own for each in meetings(tables, book, kind))


def gives(tables, book, history, index, version):
    table, states, answers = history
    _, _, other, _, condition = looks(book)[index]
    if states[version] is None or other != table:
        return False
    return own_meets(tables, book, table, states[version], answers[version], condition)


def fits(tables, book, history, column, meeting):
    table, states, answers = history
    kind, told = meeting
    if reference.kind_of(tables, table, column) != kind:
        return False
    all_looks = looks(book)
    own = [look for look in all_looks if look[0] == table]
    asked = [look for look in all_looks if kind_of_look(tables, look) == kind]
    for version in range(4):
        for at, look in enumerate(asked):
            if states[version] is None:
                continue
            answer = told[version][at]
            if look[:2] == (table, column) and answers[version][own.index(look)] != answer:
                return False
            if look[2:4] == (table, column) and not answer and gives(tables, book, history, all_looks.index(look), version):
                return False
    return True


class Striking:
    """Row histories with what they fit and give, so that it can be asked again and again what would be struck."""

    def __init__(self, tables, book, ways, lets):
        self.tables = tables
        self.looks = looks(book)
        self.histories = [each for table in sorted(tables) for each in histories(tables, book, ways, lets, table)]
        self.kinds = {kind for columns, _ in tables.values() for _, kind in columns}
        self.meetings = {kind: meetings(tables, book, kind) for kind in self.kinds}
        self.asked = {kind: [at for at, look in enumerate(self.looks) if kind_of_look(tables, look) == kind] for kind in self.kinds}
        self.fitting, self.giving = {}, {}
        for history in self.histories:
            for column, kind in tables[history[0]][0]:
                told = [meeting for meeting in self.meetings[kind] if fits(tables, book, history, column, meeting)]
                self.fitting[history, column] = set(told)
            pairs = itertools.product(range(len(self.looks)), range(4))
            self.giving[history] = {pair for pair in pairs if gives(tables, book, history, *pair)}

    def is_met(self, meeting, struck):
        kind, answers = meeting
        for version in range(4):
            for at, index in enumerate(self.asked[kind]):
                _, _, other, target, _ = self.looks[index]
                if answers[version][at] and not any(
                        history[0] == other and history not in struck and (index, version) in self.giving[history]
                        and meeting in self.fitting[history, target] for history in self.histories):
                    return False
        return True

    def struck_next(self, struck):
        """The row histories that would be struck in a round if just these had been struck in earlier rounds."""
        good = {meeting for kind in self.kinds for meeting in self.meetings[kind] if self.is_met(meeting, struck)}
        return [history for history in self.histories
                if any(not self.fitting[history, column] & good for column, _ in self.tables[history[0]][0])]

    def rounds(self):
        rounds, number = {}, 0
        while True:
            number += 1
            new = [history for history in self.struck_next(rounds) if history not in rounds]
            if not new:
                return rounds
            rounds.update({history: number for history in new})


def is_case(tables, book, ways, lets, base, copies):
    if not reference.are_rows(tables, base) or not keeps(tables, book, base):
        return False
    if type(copies) is not list or len(copies) != 2:
        return False
    for copy, kinds in zip(copies, lets):
        if not reference.is_copy(tables, base, copy) or not keeps(tables, book, copy_rows(tables, base, copy)):
            return False
        if any(reference.does(tables, base, copy, kind) and kind not in kinds for kind in reference.changes(tables)):
            return False
    return True


def history_on(tables, book, ways, base, copies, row):
    """The row history of a row of a case."""
    table, source, index = row
    merge = merged(tables, ways, base, copies)
    same_base = {own: ([flags for _, flags in base[own]], []) for own in tables}
    states, answers = [], []
    for version, copy in enumerate([same_base, copies[0], copies[1], merge]):
        if source == 0:
            values, state = base[table][index][0], copy[table][0][index]
        else:
            values, state = copies[source - 1][table][1][index]
            state = state if version in (source, 3) else None
        rows = copy_rows(tables, base, copy)
        own = [look for look in looks(book) if look[0] == table]
        states.append(state)
        answers.append(None if state is None else tuple(
            [reference.meets(tables, rows, table, (values, state), ('has',) + look[1:]) for look in own]))
    return (table, tuple(states), tuple(answers))


def breaks(tables, book, history, rule):
    """Whether a row history is there in the merge and breaks a rule there."""
    table, states, answers = history
    own, condition = book[rule]
    if own != table or states[3] is None:
        return False
    return not own_meets(tables, book, table, states[3], answers[3], condition)


def kept_rules(tables, book, ways, lets):
    striking = Striking(tables, book, ways, lets)
    rounds = striking.rounds()
    left = [history for history in striking.histories if history not in rounds]
    return [rule for rule in range(len(book)) if not any(breaks(tables, book, history, rule) for history in left)]


def free_lists(tables, book, ways):
    """All ascending lists of kinds with which the book is kept."""
    kinds = reference.changes(tables)
    lists = [list(each) for many in range(len(kinds) + 1) for each in itertools.combinations(kinds, many)]
    return [each for each in lists if len(kept_rules(tables, book, ways, (each, each))) == len(book)]
