"""Texts of questions."""

from failsalike.errors import InvalidText, NoQuestion
from failsalike.parts import BOTH
from failsalike.questions import MOST_ROWS, is_question
from failsalike.reading import Reader
from failsalike.values import KINDS
from failsalike.valuetexts import show_value

# How many parentheses may be open at once.
DEEPEST = 80
SIGNS = {"less": "<", "most": "<=", "same": "=", "and": "and", "or": "or"}
COMPARED = ("less", "most", "same")
TERMS = ("column", "value", "plus", "only", "first")
CONDITIONS = ("less", "most", "same", "is", "exists", "not", "and", "or")


def show_question(question):
    """The text of a question."""
    refs, where, told, order, limit = question
    words = ["from", show_refs(refs)]
    if where is not None:
        words.extend(["where", show_part(where)])
    words.extend(["tell", show_list(told)])
    if order != ():
        words.extend(["order", show_list(order)])
    if limit is not None:
        words.extend(["limit", str(limit)])
    return " ".join(words)


def show_refs(refs):
    """The text of refs."""
    return ", ".join([f"{alias} in {table}" for alias, table in refs])


def show_list(terms):
    """The text of some terms."""
    return ", ".join([show_part(term) for term in terms])


def show_part(part):
    """The text of a term or a condition."""
    word = part[0]
    if word == "column":
        return f"{part[1]}.{part[2]}"
    if word == "value":
        return show_value(part[1])
    if word == "plus":
        return f"({show_part(part[1])} + {part[2]})"
    if word == "is":
        return f"({show_part(part[1])} is {part[2]})"
    if word == "not":
        return f"(not {show_part(part[1])})"
    if word == "exists":
        return f"exists ({show_inner(part[1])})"
    if word in SIGNS:
        return f"({show_part(part[1])} {SIGNS[word]} {show_part(part[2])})"
    return f"{word} ({show_inner(part[1])} : {show_part(part[2])})"


def show_inner(inner):
    """The text of an inner question."""
    return f"{show_refs(inner[0])} : {show_part(inner[1])}"


def read_question(schema, thing):
    """The question for a schema whose text this is."""
    if not isinstance(thing, str) or is_too_deep(thing):
        raise InvalidText()
    question = question_of(Reader(thing))
    if not is_question(schema, question):
        raise NoQuestion()
    return question


def is_too_deep(text):
    """Whether too many parentheses are open somewhere in a text."""
    many = 0
    for letter in text:
        if letter == "(":
            many += 1
        if letter == ")":
            many -= 1
        if many > DEEPEST:
            return True
    return False


def question_of(reader):
    """What is written in the form of a question."""
    reader.expect("from ")
    refs = refs_of(reader)
    where = part_of(reader, CONDITIONS) if reader.skips(" where ") else None
    reader.expect(" tell ")
    told = list_of(reader, TERMS)
    order = list_of(reader, ("column",)) if reader.skips(" order ") else ()
    limit = limit_of(reader) if reader.skips(" limit ") else None
    reader.expect_end()
    return (refs, where, told, order, limit)


def refs_of(reader):
    """One ref or more."""
    refs = []
    while refs == [] or reader.skips(", "):
        alias = reader.take_name()
        reader.expect(" in ")
        refs.append((alias, reader.take_name()))
    return tuple(refs)


def list_of(reader, words):
    """One part or more that begin with one of these words."""
    parts = []
    while parts == [] or reader.skips(", "):
        parts.append(part_of(reader, words))
    return tuple(parts)


def limit_of(reader):
    """A limit."""
    limit = reader.take_number()
    if not 0 <= limit <= MOST_ROWS:
        raise InvalidText()
    return limit


def part_of(reader, words):
    """A part that begins with one of these words."""
    part = any_part(reader)
    if part[0] not in words:
        raise InvalidText()
    return part


def any_part(reader):
    """A term or a condition; how it ends tells which."""
    if reader.skips("(not "):
        part = ("not", part_of(reader, CONDITIONS))
    elif reader.skips("("):
        part = enclosed(reader, any_part(reader))
    elif reader.skips("exists ("):
        part = ("exists", inner_of(reader))
    elif reader.skips("only ("):
        part = with_term("only", reader)
    elif reader.skips("first ("):
        part = with_term("first", reader)
    else:
        return plain_of(reader)
    reader.expect(")")
    return part


def inner_of(reader):
    """An inner question."""
    refs = refs_of(reader)
    reader.expect(" : ")
    return (refs, part_of(reader, CONDITIONS))


def with_term(word, reader):
    """A term with an inner question."""
    inner = inner_of(reader)
    reader.expect(" : ")
    return (word, inner, part_of(reader, TERMS))


def enclosed(reader, one):
    """What is enclosed in parentheses and begins with this part."""
    if one[0] not in TERMS:
        word = word_of(reader, BOTH)
        return (word, one, part_of(reader, CONDITIONS))
    if reader.skips(" + "):
        return ("plus", one, reader.take_number())
    if reader.skips(" is "):
        kind = reader.take_name()
        if kind not in KINDS:
            raise InvalidText()
        return ("is", one, kind)
    word = word_of(reader, COMPARED)
    return (word, one, part_of(reader, TERMS))


def word_of(reader, words):
    """The one of these words whose sign comes next."""
    for word in words:
        if reader.skips(f" {SIGNS[word]} "):
            return word
    raise InvalidText()


def plain_of(reader):
    """A column or a value."""
    if reader.skips('"'):
        word = reader.take_name()
        reader.expect('"')
        return ("value", word)
    if reader.sees_number():
        return ("value", reader.take_number())
    name = reader.take_name()
    if reader.skips("."):
        return ("column", name, reader.take_name())
    if name != "nothing":
        raise InvalidText()
    return ("value", None)
