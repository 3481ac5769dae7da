"""Ledgers: what is so for all stores, shown by a tree for each shape, or a store on which it is not so."""

from failsalike.claims import Alike, Fetching, Never
from failsalike.errors import NoPlan, NoQuestion, NotPlain
from failsalike.exact import is_exactly
from failsalike.loops import ways
from failsalike.parts import INNER, inner_refs, parts_of
from failsalike.planforms import is_accepted_form
from failsalike.questions import main_terms
from failsalike.shapetrees import Case, is_right_tree, looked_for


def shapes_of(*questions):
    """The shapes of plain questions with the same refs, ascending."""
    most = {}
    for question in questions:
        for table, count in inner_counts(question):
            most[table] = most.get(table, 0) + count
    counts = {table: list(range(many + 1)) for table, many in most.items()}
    tables = [table for _, table in questions[0][0]]
    for table in tables:
        counts[table] = list(range(1, tables.count(table) + 1))
    names = sorted(list(counts))
    lists = [counts[name] for name in names]
    return tuple([tuple(list(zip(names, way))) for way in ways(lists)])


def inner_counts(question):
    """For each ref of an inner question its table, and of how many of its rows an outcome may be made."""
    found = []
    for part in main_terms(question):
        for below in parts_of(part):
            if below[0] in INNER:
                found.extend([(table, 2 if below[0] == "only" else 1) for _, table in below[1][0]])
    return found


def is_plain(question):
    """Whether ledgers can tell of this question."""
    tables = [table for _, table in question[0]]
    inner = [table for part in main_terms(question) for _, table in inner_refs(part)]
    if len(set(tables)) == len(tables) and not any([table in tables for table in inner]):
        return True
    return inner == [] and question[3] == () and question[4] is None


def are_comparable(one, other):
    """Whether two questions have the same refs, order and limit."""
    return one[0] == other[0] and one[3:] == other[3:]


def can_fail(schema, question, goal, *, limit=2000):
    """Whether a goal is that of the result of some combination: ("never", ledger) or ("can", store)."""
    if not is_plain(question):
        raise NotPlain()
    cases = cases_of(schema, (), [question], Never(question, goal))
    return answered(cases, limit, "never", "can")


def alike(schema, one, other, *, limit=2000):
    """Whether two questions have alike outcomes: ("alike", ledger) or ("apart", store)."""
    if not is_plain(one) or not is_plain(other):
        raise NotPlain()
    if not are_comparable(one, other):
        raise NoQuestion()
    return answered(cases_of(schema, (), [one, other], Alike(one, other)), limit, "alike", "apart")


def true_plan(schema, question, plan, *, limit=2000):
    """Whether a plan, whatever its papers, tells what the written run tells: ("true", ledger) or ("untrue", store)."""
    if not is_plain(question):
        raise NotPlain()
    if not is_accepted_form(schema, question, plan):
        raise NoPlan()
    # A tree that asks for each kind first shows more than it must, and is easier to check.
    cases = cases_of(schema, plan[2], [question], Fetching(question, plan, True))
    return answered(cases, limit, "true", "untrue")


def never_holds(schema, question, goal, thing):
    """Whether this is a ledger that a goal never is that of a result."""
    if not is_plain(question):
        return False
    return is_ledger(cases_of(schema, (), [question], Never(question, goal)), thing)


def alike_holds(schema, one, other, thing):
    """Whether this is a ledger that two questions have alike outcomes."""
    if not is_plain(one) or not is_plain(other) or not are_comparable(one, other):
        return False
    return is_ledger(cases_of(schema, (), [one, other], Alike(one, other)), thing)


def true_holds(schema, question, plan, thing):
    """Whether this is a ledger that a plan tells what the written run tells."""
    if not is_plain(question) or not is_accepted_form(schema, question, plan):
        return False
    return is_ledger(cases_of(schema, plan[2], [question], Fetching(question, plan, False)), thing)


def cases_of(schema, facts, questions, claim):
    """The claim for each shape of some questions."""
    first = questions[0]
    shapes = shapes_of(first) if len(questions) == 1 else shapes_of(first, questions[1])
    return [Case(schema, facts, first[0], shape, claim) for shape in shapes]


def answered(cases, limit, word, contrary):
    """A word and a ledger, or the contrary word and a store on which it is not so."""
    ledger = []
    for case in cases:
        tree, store = looked_for(case, limit)
        if store is not None:
            return (contrary, store)
        ledger.append((case.shape, tree))
    return (word, tuple(ledger))


def is_ledger(cases, thing):
    """Whether this is a tuple of pairs of the shapes and right trees."""
    if not isinstance(thing, tuple) or len(thing) != len(cases):
        return False
    if not all([isinstance(pair, tuple) and len(pair) == 2 for pair in thing]):
        return False
    return all([is_exactly(pair[0], case.shape) and is_right_tree(case, pair[1]) for case, pair in zip(cases, thing)])
