"""Evaluating terms and conditions for bound rows; the first operation that fails ends it."""

from failsalike.errors import Failed
from failsalike.loops import ways
from failsalike.values import is_number, kind_of


class Bound:
    """Rows of a store that are bound to aliases, in an order."""

    def __init__(self, store, triples):
        self.store = store
        self.triples = triples
        self.numbers = tuple([triple[2] for triple in triples])
        self.found = {alias: (table, number) for alias, table, number in triples}


def term_value(store, bound, term, place=()):
    """The value of a term at a place for bound rows."""
    return value_of(Bound(store, bound), term, place)


def condition_holds(store, bound, condition, place=()):
    """Whether a condition at a place holds for bound rows."""
    return holds(Bound(store, bound), condition, place)


def value_of(bound, term, place):
    """The value of a term."""
    word = term[0]
    if word == "column":
        table, number = bound.found[term[1]]
        return bound.store.value_at(table, number, term[2])
    if word == "value":
        return term[1]
    if word == "plus":
        return sum_of(bound, term, place)
    if word == "first":
        return first_value(bound, term, place)
    return only_value(bound, term, place)


def sum_of(bound, term, place):
    """The value of a sum."""
    value = value_of(bound, term[1], place + (1,))
    if kind_of(value) != "number":
        raise Failed("kind", place, bound.numbers)
    if not is_number(value + term[2]):
        raise Failed("range", place, bound.numbers)
    return value + term[2]


def first_value(bound, term, place):
    """The value of a term for the first rows for which the inner condition holds."""
    refs, condition = term[1]
    for inner in bound_further(bound, refs):
        if holds(inner, condition, place + (1, 1)):
            return value_of(inner, term[2], place + (2,))
    return None


def only_value(bound, term, place):
    """The value of a term for the only rows for which the inner condition holds."""
    refs, condition = term[1]
    is_found = False
    value = None
    for inner in bound_further(bound, refs):
        if holds(inner, condition, place + (1, 1)):
            if is_found:
                raise Failed("several", place, inner.numbers)
            is_found = True
            value = value_of(inner, term[2], place + (2,))
    return value


def bound_further(bound, refs):
    """The bound rows together with rows of inner refs, in all ways."""
    lists = [bound.store.row_numbers(table) for _, table in refs]
    for numbers in ways(lists):
        more = [(alias, table, number) for (alias, table), number in zip(refs, numbers)]
        yield Bound(bound.store, (*bound.triples, *more))


def holds(bound, condition, place):
    """Whether a condition holds."""
    word = condition[0]
    if word == "not":
        return not holds(bound, condition[1], place + (1,))
    if word == "and":
        return holds(bound, condition[1], place + (1,)) and holds(bound, condition[2], place + (2,))
    if word == "or":
        return holds(bound, condition[1], place + (1,)) or holds(bound, condition[2], place + (2,))
    if word == "exists":
        return is_there(bound, condition[1], place + (1,))
    if word == "is":
        return kind_of(value_of(bound, condition[1], place + (1,))) == condition[2]
    return is_so(bound, condition, place)


def is_there(bound, inner, place):
    """Whether the condition of an inner question at a place holds for some rows."""
    for further in bound_further(bound, inner[0]):
        if holds(further, inner[1], place + (1,)):
            return True
    return False


def is_so(bound, leaf, place):
    """Whether a comparison holds."""
    one = value_of(bound, leaf[1], place + (1,))
    other = value_of(bound, leaf[2], place + (2,))
    if leaf[0] == "same":
        if one is None or other is None:
            raise Failed("nothing", place, bound.numbers)
        return one == other
    if kind_of(one) != "number" or kind_of(other) != "number":
        raise Failed("kind", place, bound.numbers)
    return one < other if leaf[0] == "less" else one <= other
