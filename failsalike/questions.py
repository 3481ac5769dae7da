"""Questions: which values are some, and their parts."""

from failsalike.parts import BOTH, at_place, inner_refs, leaves_of, parts_of, replaced
from failsalike.values import KINDS, is_name, is_number, is_value

# How many there may be at most.
MOST_REFS = 4
MOST_INNER_REFS = 2
MOST_TOLD = 4
MOST_ORDER = 4
MOST_ROWS = 1000


def is_question(schema, thing):
    """Whether this is a question for a schema."""
    if not isinstance(thing, tuple) or len(thing) != 5:
        return False
    refs, where, told, order, limit = thing
    if not are_refs(schema, refs, MOST_REFS) or not is_limit(limit):
        return False
    scope = columns_of(schema, refs)
    if where is not None and not is_condition(schema, scope, where, True):
        return False
    if not are_terms(schema, scope, told, MOST_TOLD) or told == ():
        return False
    if not are_terms(schema, scope, order, MOST_ORDER) or not all([term[0] == "column" for term in order]):
        return False
    aliases = aliases_of(thing)
    return len(set(aliases)) == len(aliases)


def are_refs(schema, thing, most):
    """Whether this is a tuple of one ref or more to tables of a schema."""
    if not isinstance(thing, tuple) or not 1 <= len(thing) <= most:
        return False
    tables = [table[0] for table in schema]
    return all([isinstance(ref, tuple) and len(ref) == 2 and is_name(ref[0]) and ref[1] in tables for ref in thing])


def is_limit(thing):
    """Whether this is None or an integer from 0 to the greatest limit."""
    return thing is None or is_number(thing) and 0 <= thing <= MOST_ROWS


def columns_of(schema, refs):
    """The names of the columns by aliases of refs."""
    names = {table[0]: [pair[0] for pair in table[1]] for table in schema}
    return {alias: names[table] for alias, table in refs}


def are_terms(schema, scope, thing, most):
    """Whether this is a tuple of so many terms of a question, outside of inner questions."""
    if not isinstance(thing, tuple) or len(thing) > most:
        return False
    return all([is_term(schema, scope, term, True) for term in thing])


def has_form(thing, words, size):
    """Whether this is a tuple of this size that begins with one of these words."""
    return isinstance(thing, tuple) and len(thing) == size and thing[0] in words


def is_term(schema, scope, thing, outside):
    """Whether this is a term with columns of a scope; outside of inner questions it may have some."""
    if has_form(thing, ("value",), 2):
        return is_value(thing[1])
    if has_form(thing, ("column",), 3):
        return is_name(thing[1]) and thing[2] in scope.get(thing[1], ())
    if has_form(thing, ("plus",), 3):
        return is_number(thing[2]) and is_term(schema, scope, thing[1], outside)
    if not has_form(thing, ("only", "first"), 3) or not outside or not is_inner(schema, scope, thing[1]):
        return False
    return is_term(schema, scope_within(schema, scope, thing[1]), thing[2], False)


def is_condition(schema, scope, thing, outside):
    """Whether this is a condition with columns of a scope; outside of inner questions it may have some."""
    if has_form(thing, ("less", "most", "same"), 3):
        return is_term(schema, scope, thing[1], outside) and is_term(schema, scope, thing[2], outside)
    if has_form(thing, BOTH, 3):
        return is_condition(schema, scope, thing[1], outside) and is_condition(schema, scope, thing[2], outside)
    if has_form(thing, ("is",), 3):
        return thing[2] in KINDS and is_term(schema, scope, thing[1], outside)
    if has_form(thing, ("not",), 2):
        return is_condition(schema, scope, thing[1], outside)
    return has_form(thing, ("exists",), 2) and outside and is_inner(schema, scope, thing[1])


def is_inner(schema, scope, thing):
    """Whether this is an inner question that stands in a scope."""
    if not isinstance(thing, tuple) or len(thing) != 2 or not are_refs(schema, thing[0], MOST_INNER_REFS):
        return False
    return is_condition(schema, scope_within(schema, scope, thing), thing[1], False)


def scope_within(schema, scope, inner):
    """The columns of a scope and of the refs of an inner question."""
    columns = columns_of(schema, inner[0])
    return {**scope, **columns}


def main_terms(question):
    """All terms and conditions that stand right in a question."""
    terms = [*question[2], *question[3]]
    return terms if question[1] is None else [question[1], *terms]


def aliases_of(question):
    """All aliases of a question, also those of inner questions."""
    inner = [alias for part in main_terms(question) for alias, _ in inner_refs(part)]
    return [alias for alias, _ in question[0]] + inner


def part_at(question, place):
    """The part at the place of a term, a condition, an inner question, or ()."""
    return at_place(question, place)


def main_parts(question):
    """The places of the leaves of where and of the told terms, ascending."""
    leaves = [] if question[1] is None else leaves_of(question[1], (1,))
    return tuple(leaves + [(2, at) for at in range(len(question[2]))])


def named(question, place):
    """The aliases of refs of the question that a main part names, ascending."""
    parts = parts_of(part_at(question, place))
    columns = [part[1] for part in parts if part[0] == "column"]
    return tuple(sorted([alias for alias, _ in question[0] if alias in columns]))


def exchanged(question, place):
    """The question in which the two conditions of the and, or or, at a place are exchanged."""
    word, one, other = part_at(question, place)
    return replaced(question, place, (word, other, one))
