"""The written run: what a question means."""

from failsalike.errors import Failed
from failsalike.evaluating import condition_holds, term_value
from failsalike.loops import ways
from failsalike.values import rank_of


def combinations(store, refs):
    """All combinations of rows of some refs, ascending."""
    lists = [store.row_numbers(table) for _, table in refs]
    yield from ways(lists)


def bound_by(refs, numbers):
    """The triples that bind the rows of a combination."""
    return tuple([(alias, table, number) for (alias, table), number in zip(refs, numbers)])


def result_of(store, question, numbers):
    """The result of a combination."""
    bound = bound_by(question[0], numbers)
    try:
        if question[1] is not None and not condition_holds(store, bound, question[1], (1,)):
            return ("none",)
        return ("match", told_values(store, question, bound))
    except Failed as failure:
        return ("fails", failure.word, failure.place, failure.numbers)


def told_values(store, question, bound):
    """The values of the told terms, one behind the other."""
    return tuple([term_value(store, bound, term, (2, at)) for at, term in enumerate(question[2])])


def written(store, question):
    """The rows that the written run tells, one by one; it may end in a failure."""
    if question[4] != 0:
        # The run goes on with the rows that were there, whatever is put and taken between two rows.
        held = store.copy()
        if question[3] == ():
            yield from as_found(held, question)
        else:
            yield from sorted_rows(held, question)[: question[4]]


def as_found(store, question):
    """The rows of the matches, as many as the limit lets by; it ends at the first failure."""
    told = 0
    for numbers in combinations(store, question[0]):
        result = result_of(store, question, numbers)
        if result[0] == "fails":
            raise Failed(result[1], result[2], result[3])
        if result[0] == "match":
            yield (numbers, result[1])
            told += 1
            if told == question[4]:
                return


def sorted_rows(store, question):
    """The rows of all matches, by the columns of the order; it ends at the first failure."""
    unlimited = (*question[:4], None)
    rows = list(as_found(store, unlimited))
    return sorted(rows, key=lambda row: ranks(store, question, row[0]))


def ranks(store, question, numbers):
    """What the row of a combination is sorted by."""
    bound = bound_by(question[0], numbers)
    return [rank_of(term_value(store, bound, column)) for column in question[3]]


def outcome(store, question):
    """The told rows and the failure, or None."""
    told = []
    try:
        for row in written(store, question):
            told.append(row)
    except Failed as failure:
        return (tuple(told), (failure.word, failure.place, failure.numbers))
    return (tuple(told), None)
