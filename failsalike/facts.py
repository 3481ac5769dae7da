"""Facts of columns: how many values of each kind there are, and between which numbers."""

from failsalike.values import KINDS, is_number, kind_of


class Facts:
    """The facts of some values."""

    def __init__(self, *values):
        numbers = [value for value in values if kind_of(value) == "number"]
        self.nothings = len([value for value in values if value is None])
        self.numbers = len(numbers)
        self.words = len(values) - self.nothings - self.numbers
        self.least = min(numbers, default=None)
        self.greatest = max(numbers, default=None)
        self.text = text_of(self.nothings, self.numbers, self.words, self.least, self.greatest)

    def __add__(self, other):
        if not isinstance(other, Facts):
            return NotImplemented
        ends = [end for end in (self.least, self.greatest, other.least, other.greatest) if end is not None]
        both = Facts()
        both.nothings = self.nothings + other.nothings
        both.numbers = self.numbers + other.numbers
        both.words = self.words + other.words
        both.least = min(ends, default=None)
        both.greatest = max(ends, default=None)
        both.text = text_of(both.nothings, both.numbers, both.words, both.least, both.greatest)
        return both

    def __contains__(self, x):
        if many_of(self, kind_of(x)) == 0:
            return False
        return kind_of(x) != "number" or self.least <= x <= self.greatest

    def __eq__(self, other):
        return (
            isinstance(other, Facts)
            and self.nothings == other.nothings
            and self.numbers == other.numbers
            and self.words == other.words
            and self.least == other.least
            and self.greatest == other.greatest
        )


def text_of(nothings, numbers, words, least, greatest):
    """Facts in words; least and greatest are None without numbers."""
    span = "" if least is None else f" from {least} to {greatest}"
    return f"{nothings} nothing, {numbers} numbers{span}, {words} words"


def many_of(facts, kind):
    """How many values of this kind there are."""
    if kind == "nothing":
        return facts.nothings
    if kind == "number":
        return facts.numbers
    return facts.words


def is_fact(schema, thing):
    """Whether this is a named fact about a table and a column of a schema."""
    if not isinstance(thing, tuple) or len(thing) < 4 or not has_column(schema, thing[1], thing[2]):
        return False
    if thing[0] == "no":
        return len(thing) == 4 and thing[3] in KINDS
    return thing[0] == "within" and len(thing) == 5 and is_span(thing[3], thing[4])


def has_column(schema, table, column):
    """Whether a table of a schema has this name and a column with that one."""
    columns = [pair[0] for entry in schema if entry[0] == table for pair in entry[1]]
    return column in columns


def is_span(low, high):
    """Whether these are two numbers in their order."""
    return is_number(low) and is_number(high) and low <= high


def fact_holds(store, fact):
    """Whether a named fact is so on a store."""
    facts = store.facts(fact[1], fact[2])
    if fact[0] == "no":
        return many_of(facts, fact[3]) == 0
    return facts.numbers == 0 or (fact[3] <= facts.least and facts.greatest <= fact[4])
