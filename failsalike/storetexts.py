"""Texts of stores."""

from failsalike.errors import FailsError, InvalidText
from failsalike.stores import Store
from failsalike.valuetexts import integer_of, show_value, value_of


def show_store(store):
    """The text of a store."""
    lines = []
    for table in store.schema:
        lines.append(show_table(table))
        for number, values in store.rows(table[0]):
            shown = [show_value(value) for value in values]
            lines.append(" ".join(["row", str(number), *shown]))
        lines.append(f"next {store.next_number(table[0])}")
    return "\n".join(lines)


def show_table(table):
    """The line of a table."""
    name, columns, keys, indexes = table
    words = ["table", name]
    words.extend([column + ":" + "|".join(kinds) for column, kinds in columns])
    words.extend([f"key {column}" for column in keys])
    words.extend([f"index {column}" for column in indexes])
    return " ".join(words)


def read_store(thing):
    """The store whose text this is."""
    if not isinstance(thing, str):
        raise InvalidText()
    try:
        store = store_of(thing)
    except FailsError:
        raise InvalidText() from None
    # What reading let pass, as tables and lines out of their order, is told by writing again.
    if show_store(store) != thing:
        raise InvalidText()
    return store


def store_of(text):
    """A store with what the lines of a text say, in any order that can be followed."""
    store = Store()
    table = None
    # Without tables there are no lines, not even an empty one.
    lines = text.split("\n") if text != "" else []
    for line in lines:
        words = line.split(" ")
        if words[0] == "table" and len(words) > 1:
            table = words[1]
            make_table(store, words)
        elif table is None or len(words) == 1:
            raise InvalidText()
        elif words[0] == "row":
            skip(store, table, words[1])
            values = [value_of(word) for word in words[2:]]
            store.put(table, *values)
        else:
            skip(store, table, words[1])
    return store


def make_table(store, words):
    """Adds the table of a line."""
    made = [word.partition(":") for word in words[2:] if ":" in word]
    columns = tuple([(name, tuple(kinds.split("|"))) for name, _, kinds in made])
    rest = words[2 + len(made) :]
    keys, indexes = named_behind("key", rest), named_behind("index", rest)
    store.make(words[1], columns, keys=keys, indexes=indexes)


def named_behind(word, words):
    """What stands in each pair of words behind this one."""
    return tuple([name for first, name in zip(words[::2], words[1::2]) if first == word])


def skip(store, table, word):
    """The next row of a table gets the number that is written so."""
    number = integer_of(word)
    if number < store.next_number(table):
        raise InvalidText()
    store.skip_to(table, number)
