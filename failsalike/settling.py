"""Evaluating a question whose values are unknowns: it goes on as long as what is known settles each test.

The value of a term is a pair (unknown, k), the number of an unknown and k, or with k 0 its value; or ((), value).
"""

from failsalike.errors import Failed
from failsalike.loops import ways
from failsalike.values import RANGE, kind_of


class Unsettled(Exception):
    """A test that is not settled: what a node of a tree begins with."""

    def __init__(self, test):
        self.test = test


class View:
    """Rows of unknowns, and what is known of them."""

    def __init__(self, state, starts, counts, hidden, known):
        self.state = state
        # By aliases: what the unknowns of the row begin with.
        self.starts = starts
        # By tables: how many rows there are for inner questions.
        self.counts = counts
        # The places of the main parts that are not evaluated, and the outcomes of some of them.
        self.hidden = hidden
        self.known = known


def result_seen(view, question):
    """The result of a combination, without numbers of rows."""
    try:
        if question[1] is not None and not condition_seen(view, question[1], (1,)):
            return ("none",)
        return ("match", tuple([told_seen(view, term, (2, at)) for at, term in enumerate(question[2])]))
    except Failed as failure:
        return ("fails", failure.word, failure.place)


def told_seen(view, term, place):
    """The value of a told term; None if it is not evaluated."""
    if place in view.hidden:
        hidden_holds(view, place)
        return None
    return value_seen(view, term, place)


def condition_seen(view, condition, place):
    """Whether a condition holds."""
    word = condition[0]
    if word == "not":
        return not condition_seen(view, condition[1], place + (1,))
    if word == "and":
        return condition_seen(view, condition[1], place + (1,)) and condition_seen(view, condition[2], place + (2,))
    if word == "or":
        return condition_seen(view, condition[1], place + (1,)) or condition_seen(view, condition[2], place + (2,))
    if place in view.hidden:
        return hidden_holds(view, place)
    if word == "exists":
        return is_seen(view, condition[1], place + (1,))
    if word == "is":
        return has_kind(view.state, value_seen(view, condition[1], place + (1,)), condition[2])
    return comparison_seen(view, condition, place)


def hidden_holds(view, place):
    """Whether a main part that is not evaluated has the outcome true."""
    if place not in view.known:
        raise Unsettled(("leaf", place))
    if view.known[place] == "fails":
        raise Failed("hidden", place, ())
    return view.known[place] == "true"


def passes(view, part, place):
    """Evaluates a leaf or a told term as far as it can fail; it has no inner question."""
    if part[0] == "is":
        value_seen(view, part[1], place + (1,))
    elif part[0] in ("less", "most", "same"):
        sides_seen(view, part, place)
    else:
        value_seen(view, part, place)


def value_seen(view, term, place):
    """The value of a term."""
    word = term[0]
    if word == "column":
        return ((*view.starts[term[1]], term[2]), 0)
    if word == "value":
        return ((), term[1])
    if word == "plus":
        return sum_seen(view, term, place)
    if word == "first":
        return first_seen(view, term, place)
    return only_seen(view, term, place)


def sum_seen(view, term, place):
    """The value of a sum."""
    unknown, more = value_seen(view, term[1], place + (1,))
    state = view.state
    if not has_kind(state, (unknown, more), "number"):
        raise Failed("kind", place, ())
    value = (unknown, more + term[2])
    # At most one of both ends can be passed, so they are settled together.
    ends = [at_most(state, value, ((), RANGE), 0), at_most(state, ((), -RANGE), value, 0)]
    if not all_hold(ends):
        raise Failed("range", place, ())
    return value


def first_seen(view, term, place):
    """The value of a term for the first rows for which the inner condition holds."""
    refs, condition = term[1]
    for further in further_views(view, refs):
        if condition_seen(further, condition, place + (1, 1)):
            return value_seen(further, term[2], place + (2,))
    return ((), None)


def only_seen(view, term, place):
    """The value of a term for the only rows for which the inner condition holds."""
    refs, condition = term[1]
    found = []
    for further in further_views(view, refs):
        if condition_seen(further, condition, place + (1, 1)):
            if found != []:
                raise Failed("several", place, ())
            found.append(value_seen(further, term[2], place + (2,)))
    return ((), None) if found == [] else found[0]


def is_seen(view, inner, place):
    """Whether the condition of an inner question holds for some rows."""
    for further in further_views(view, inner[0]):
        if condition_seen(further, inner[1], place + (1,)):
            return True
    return False


def further_views(view, refs):
    """The rows together with rows of inner refs, in all ways."""
    lists = [list(range(view.counts[table])) for _, table in refs]
    for numbers in ways(lists):
        starts = {alias: row for alias, row in view.starts.items()}
        for (alias, table), number in zip(refs, numbers):
            starts[alias] = (table, number)
        yield View(view.state, starts, view.counts, view.hidden, view.known)


def sides_seen(view, leaf, place):
    """The values of both sides of a comparison that does not fail."""
    state = view.state
    sides = (value_seen(view, leaf[1], place + (1,)), value_seen(view, leaf[2], place + (2,)))
    for side in sides:
        if leaf[0] == "same" and has_kind(state, side, "nothing"):
            raise Failed("nothing", place, ())
        if leaf[0] != "same" and not has_kind(state, side, "number"):
            raise Failed("kind", place, ())
    return sides


def comparison_seen(view, leaf, place):
    """Whether a comparison holds."""
    one, other = sides_seen(view, leaf, place)
    if leaf[0] == "same":
        return one == other or are_equal_somethings(view.state, one, other)
    return all_hold([at_most(view.state, one, other, -1 if leaf[0] == "less" else 0)])


def are_equal_somethings(state, one, other):
    """Whether two values are equal, both of which are not nothing."""
    is_numeric = has_kind(state, one, "number")
    if is_numeric != has_kind(state, other, "number"):
        return False
    return are_equal_numbers(state, one, other) if is_numeric else are_equal_words(state, one, other)


def are_equal(state, one, other):
    """Whether two values are equal; nothing equals nothing."""
    if one == other:
        return True
    kinds = [kind for kind in kinds_seen(state, one) if kind in kinds_seen(state, other)]
    if kinds == []:
        return False
    for value in (one, other):
        if len(kinds_seen(state, value)) > 1:
            raise Unsettled(("kind", value[0]))
    if kinds == ["nothing"]:
        return True
    return are_equal_numbers(state, one, other) if kinds == ["number"] else are_equal_words(state, one, other)


def kinds_seen(state, value):
    """The kinds that a value may have."""
    return state.kinds_of(value[0]) if value[0] != () else (kind_of(value[1]),)


def has_kind(state, value, kind):
    """Whether a value has a kind."""
    kinds = kinds_seen(state, value)
    if kind in kinds and len(kinds) > 1:
        raise Unsettled(("kind", value[0]))
    return kind in kinds


def are_equal_numbers(state, one, other):
    """Whether two numbers are equal."""
    return all_hold([at_most(state, one, other, 0), at_most(state, other, one, 0)])


def are_equal_words(state, one, other):
    """Whether two words are equal."""
    if one[0] == () and other[0] == ():
        return one[1] == other[1]
    if one[0] == ():
        one, other = other, one
    test = ("word", one[0], other[1]) if other[0] == () else ("same", one[0], other[0])
    return all_hold([(state.settled_alone(test), test)])


def at_most(state, one, other, most):
    """Whether a number less another one is at most an integer, or None; and the test that asks for it."""
    test = ("most", one[0], other[0], most - one[1] + other[1])
    return (state.settled_alone(test), test)


def all_hold(answers):
    """Whether all tests hold, of which at most one may not."""
    if any([answer is False for answer, _ in answers]):
        return False
    for answer, test in answers:
        if answer is None:
            raise Unsettled(test)
    return True
