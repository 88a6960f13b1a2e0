"""The shell: stores by name, opened, changed and shown by lines of words."""

from rulesmerged.errors import DuplicateName, InvalidLine, InvalidName, UnknownStore, UnknownTable
from rulesmerged.schemas import is_name
from rulesmerged.stores import Store
from rulesmerged.texts import parse_book, parse_schema

MOST_FIGURES = 9
NOTHING = "-"


def _text(word):
    """The text of a schema or a book that is written as one word."""
    return word.replace("/", "\n").replace(",", " ")


def _ways(schema, word):
    """The ways that a word tells, perhaps none of the schema; None if it does not tell as many as there are tables."""
    parts, ways = word.split("/"), {}
    if len(parts) != len(schema.tables):
        return None
    for table, part in zip(schema.tables, parts):
        drop, *words = part.split(",")
        ways[table] = (drop, tuple(words))
    return ways


def _kinds(word):
    """The kinds of changes that a word tells, perhaps none of a schema."""
    return [] if word == NOTHING else [tuple(kind.split(".")) for kind in word.split(",")]


def _number(word):
    """The integer that a word is, or None."""
    if not word.isascii() or not word.isdigit() or len(word) > MOST_FIGURES:
        return None
    return None if word[0] == "0" and word != "0" else int(word)


def _flags(word):
    """The flags of a row that a word tells, or None."""
    if word == NOTHING:
        return ()
    if not all([letter == "y" or letter == "n" for letter in word]):
        return None
    return tuple([letter == "y" for letter in word])


def _row_text(row):
    values, flags = row
    letters = "".join(["y" if flag else "n" for flag in flags])
    return ",".join([str(value) for value in values]) + ":" + (letters or NOTHING)


def _joined(words):
    return " ".join(words) or "none"


def _open_store(stores, words):
    _, name, schema_word, book_word, ways_word, kinds_word = words
    if not is_name(name):
        raise InvalidName("this is no name")
    if name in stores:
        raise DuplicateName("there is a store of this name")
    schema = parse_schema(_text(schema_word))
    book = [] if book_word == NOTHING else parse_book(schema, _text(book_word))
    stores[name] = Store(schema, book, _ways(schema, ways_word), _kinds(kinds_word))
    return "ok"


def _store(stores, words):
    """The store that is named by the second word."""
    if words[1] not in stores:
        raise UnknownStore("there is no store of this name")
    return stores[words[1]]


def _close_store(stores, words):
    _store(stores, words)
    del stores[words[1]]
    return "ok"


def _begin(stores, words):
    _store(stores, words).begin(words[2])
    return "ok"


def _put(stores, words):
    values = tuple([_number(word) for word in words[4].split(",")])
    return str(_store(stores, words).put(words[2], words[3], values, _flags(words[5])))


def _drop(stores, words):
    _store(stores, words).drop(words[2], words[3], _number(words[4]))
    return "ok"


def _turn(stores, words):
    _store(stores, words).turn(words[2], words[3], _number(words[4]), words[5])
    return "ok"


def _merge(stores, words):
    _store(stores, words).merge([] if words[2] == NOTHING else words[2].split(","))
    return "ok"


def _undo(stores, words):
    _store(stores, words).undo()
    return "ok"


def _show_copy(stores, words):
    return _shown(_store(stores, words).rows(words[2]), words[3])


def _show_base(stores, words):
    return _shown(_store(stores, words).base, words[2])


def _shown(rows, table):
    if table not in rows:
        raise UnknownTable("the schema has no such table")
    return _joined([_row_text(row) for row in rows[table]])


def _copies(stores, words):
    return _joined(_store(stores, words).names)


def _changes(stores, words):
    return _joined([".".join(kind) for kind in _store(stores, words).done_in(words[2])])


def _safe(stores, words):
    return "yes" if _store(stores, words).is_safe() else "no"


def _stores(stores, _):
    return _joined(sorted(stores))


# By the first word of a line and the number of its words.
ACTIONS = {
    ("open", 6): _open_store,
    ("close", 2): _close_store,
    ("begin", 3): _begin,
    ("put", 6): _put,
    ("drop", 5): _drop,
    ("turn", 6): _turn,
    ("merge", 3): _merge,
    ("undo", 2): _undo,
    ("show", 4): _show_copy,
    ("show", 3): _show_base,
    ("copies", 2): _copies,
    ("changes", 3): _changes,
    ("safe", 2): _safe,
    ("stores", 1): _stores,
}


class Shell:
    """Stores by name, at first none."""

    def __init__(self):
        self._stores = {}

    def run(self, line):
        """Executes a line; returns its answer."""
        if not isinstance(line, str) or "\n" in line:
            raise InvalidLine("this is no line")
        words = line.split(" ")
        if "" in words or (words[0], len(words)) not in ACTIONS:
            raise InvalidLine("this is no line of the shell")
        action = ACTIONS[(words[0], len(words))]
        return action(self._stores, words)
