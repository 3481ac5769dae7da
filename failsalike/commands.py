"""The forms of commands, and how answers are written."""

from failsalike.errors import InvalidCommand, InvalidText
from failsalike.values import KINDS, is_name, is_value
from failsalike.valuetexts import integer_of, show_value, value_of


def words_of(line):
    """The words of a command."""
    if not isinstance(line, str):
        raise InvalidCommand()
    words = line.split(" ")
    if "" in words:
        raise InvalidCommand()
    return words


def number_in(word):
    """The integer from 0 on that is written so."""
    try:
        number = integer_of(word)
    except InvalidText:
        raise InvalidCommand() from None
    if number < 0:
        raise InvalidCommand()
    return number


def value_in(word):
    """The value that is written so."""
    try:
        value = value_of(word)
    except InvalidText:
        raise InvalidCommand() from None
    if not is_value(value) or show_value(value) != word:
        raise InvalidCommand()
    return value


def table_in(words):
    """The name, the columns, the keys and the indexes that the words behind make tell."""
    columns = [column_in(word) for word in words[1:] if ":" in word]
    rest = words[1 + len(columns) :]
    # A column may be called key, too.
    many = rest[::2].count("key")
    keys, indexes = names_behind("key", rest[: 2 * many]), names_behind("index", rest[2 * many :])
    if words == [] or not is_name(words[0]) or columns == []:
        raise InvalidCommand()
    return (words[0], tuple(columns), keys, indexes)


def column_in(word):
    """The name and the kinds of a column."""
    name, _, kinds = word.partition(":")
    if not is_name(name) or not all([kind in KINDS for kind in kinds.split("|")]):
        raise InvalidCommand()
    return (name, tuple(kinds.split("|")))


def names_behind(word, words):
    """The names in pairs of this word and a name, which all words are."""
    names = words[1::2]
    if len(names) != len(words[::2]) or not all([first == word for first in words[::2]]):
        raise InvalidCommand()
    if not all([is_name(name) for name in names]):
        raise InvalidCommand()
    return tuple(names)


def show_rows(rows):
    """Told rows."""
    if rows == ():
        return "no rows"
    return " / ".join([" ".join([show_value(value) for value in values]) for _, values in rows])


def show_outcome(rows, failure):
    """An outcome."""
    if failure is None:
        return f"{show_rows(rows)} ; end"
    word, place, numbers = failure
    return f"{show_rows(rows)} ; {word} at {dotted(place)} by {dotted(numbers)}"


def dotted(numbers):
    """A place, or the numbers of rows; None is none."""
    return "none" if numbers is None else ".".join([str(number) for number in numbers])
