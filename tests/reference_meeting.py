"""What the document says of what merged rows meet, in the plainest way; slow, and apart."""

from tests import reference, reference_histories

YES = ('yes',)


def asked_of(book, table, condition):
    """The book and a rule that all rows meet, in which there are the looks of a condition."""
    return book + [(table, ('or', YES, condition))]


def breaks_there(tables, asked, history, condition):
    """Whether a row history, of a book that asked_of told, is there in the merge and does not meet the condition."""
    table, states, answers = history
    if states[3] is None:
        return False
    return not reference_histories.own_meets(tables, asked, table, states[3], answers[3], condition)


def always(tables, book, ways, lets, table, condition):
    asked = asked_of(book, table, condition)
    striking = reference_histories.Striking(tables, asked, ways, lets)
    rounds = striking.rounds()
    return not any(history[0] == table and history not in rounds and breaks_there(tables, asked, history, condition)
                   for history in striking.histories)


def rows_not_meeting(tables, rows, table, condition):
    return [row for row in rows[table] if not reference.meets(tables, rows, table, row, condition)]


def is_script(tables, thing):
    def is_deed(deed):
        if type(deed) is not tuple or len(deed) < 3 or type(deed[1]) is not str or deed[1] not in tables:
            return False
        if type(deed[0]) is not str or not reference.is_condition(tables, deed[1], deed[-1]):
            return False
        if deed[0] == 'set':
            return len(deed) == 4 and type(deed[2]) is str and deed[2] in tables[deed[1]][1]
        return deed[0] == 'drop' and len(deed) == 3

    return reference.is_list_of(thing, is_deed) and len(thing) <= 2


def done(tables, rows, script):
    """The rows that a script leaves, deed by deed and row by row."""
    for deed in script:
        table, left = deed[1], []
        for values, flags in rows[table]:
            met = reference.meets(tables, rows, table, (values, flags), deed[-1])
            if deed[0] == 'set':
                left.append((values, tuple(met if flag == deed[2] else own for flag, own in zip(tables[table][1], flags))))
            elif not met:
                left.append((values, flags))
        rows = {own: left if own == table else rows[own] for own in sorted(rows)}
    return rows


def ahead_of(deed, table, condition):
    """The condition that rows meet ahead of a deed if they are left and meet a condition behind it, and only then."""
    word = condition[0]
    if word == 'flag' and deed[:3] == ('set', table, condition[1]):
        return deed[3]
    if word in ('yes', 'flag'):
        return condition
    if word != 'has':
        return (word,) + tuple(ahead_of(deed, table, part) for part in condition[1:])
    found = ahead_of(deed, condition[2], condition[4])
    if deed[:2] == ('drop', condition[2]):
        found = ('and', ('not', deed[2]), found)
    return condition[:4] + (found,)


def rule_ahead_of(script, table, condition):
    """The condition that all rows meet ahead of a script if those that it leaves keep a rule, and only then."""
    for deed in reversed(script):
        condition = ahead_of(deed, table, condition)
        if deed[:2] == ('drop', table):
            condition = ('or', deed[2], condition)
    return condition
