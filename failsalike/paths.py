"""Paths: which rows a course fetches for rows that are bound, and how many it may have to fetch."""

from failsalike.goals import outcome_at
from failsalike.questions import named


def fetched(store, question, course, bound):
    """The numbers of the rows that the path of the next ref fetches, in their order."""
    alias, path = course[1][len(bound)], course[2][len(bound)]
    return fetched_by(store, question, alias, path, bound)


def fetched_by(store, question, alias, path, bound):
    """The numbers of the rows that a path of an alias fetches for bound rows, in their order."""
    table = table_of(question, alias)
    if path[0] == "rows":
        return tuple(store.row_numbers(table))
    if path[0] == "first":
        return tuple(store.row_numbers(table)[:1])
    entries = store.entries(table, path[1])
    if path[0] == "between":
        return tuple([number for value, number in entries if is_between(value, path[2], path[3])])
    found = []
    for _, number in entries:
        if outcome_at(store, question, (*bound, (alias, table, number)), path[2]) in path[3]:
            found.append(number)
    return tuple(found)


def table_of(question, alias):
    """The table of a ref."""
    return [table for name, table in question[0] if name == alias][0]


def is_between(value, low, high):
    """Whether a value is a number from low to high."""
    return isinstance(value, int) and low <= value <= high


def cost(store, question, course):
    """How many rows a course may have to fetch."""
    total = 0
    many = 1
    for alias, path in zip(course[1], course[2]):
        many *= rows_of(store, question, alias, path)
        total += many
    return total


def rows_of(store, question, alias, path):
    """How many rows a path has."""
    if path[0] == "index" and named(question, path[2]) != (alias,):
        return len(store.row_numbers(table_of(question, alias)))
    return len(fetched_by(store, question, alias, path, ()))
