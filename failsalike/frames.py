"""What declared kinds and named facts say of the values of columns."""

from failsalike.states import start
from failsalike.values import RANGE


def kinds_by(schema, facts):
    """The kinds that declared ones and named facts leave, by pairs of tables and columns."""
    left = {(table[0], name): kinds for table in schema for name, kinds in table[1]}
    for fact in facts:
        if fact[0] == "no":
            at = (fact[1], fact[2])
            left[at] = tuple([kind for kind in left[at] if kind != fact[3]])
    return left


def spans_by(facts):
    """The least and the greatest number that named facts leave, by pairs of tables and columns."""
    spans = {}
    for fact in facts:
        if fact[0] == "within":
            low, high = spans.get((fact[1], fact[2]), (-RANGE, RANGE))
            spans[(fact[1], fact[2])] = (max(low, fact[3]), min(high, fact[4]))
    return spans


def start_by(schema, facts, columns):
    """The state without atoms; columns has the pairs of tables and columns by unknowns."""
    kinds = kinds_by(schema, facts)
    spans = spans_by(facts)
    frame = [(unknown, kinds[at]) for unknown, at in columns.items()]
    return start(frame, {unknown: spans[at] for unknown, at in columns.items() if at in spans})
