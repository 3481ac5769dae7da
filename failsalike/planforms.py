"""Plans: which values have the form of one, and which are accepted but for their papers."""

from failsalike.exact import is_ascending, is_integer, is_place
from failsalike.facts import is_fact, is_span
from failsalike.goals import OUTCOMES, by_form, goals_of, possible
from failsalike.parts import inner_refs, outer_columns
from failsalike.questions import main_parts, named, part_at
from failsalike.values import is_name

LEAVES = ("less", "most", "same", "is")


def is_accepted_form(schema, question, thing):
    """Whether this is a plan that is accepted with right papers, whatever papers it has."""
    if not is_plan_form(schema, question, thing):
        return False
    courses, omissions, _ = thing
    reached = [goal for course in courses for goal in course[0]] + [goal for goal, _ in omissions]
    if not all([goal in reached for goal in range(len(goals_of(question)))]):
        return False
    return all([are_paths_accepted(question, course) for course in courses])


def is_plan_form(schema, question, thing):
    """Whether this is a plan, accepted or not."""
    if not isinstance(thing, tuple) or len(thing) != 3 or not all([isinstance(part, tuple) for part in thing]):
        return False
    courses, omissions, facts = thing
    if not all([is_fact(schema, fact) for fact in facts]) or not is_ascending(facts):
        return False
    if not all([isinstance(pair, tuple) and len(pair) == 2 for pair in omissions]):
        return False
    if not are_goals(question, tuple([pair[0] for pair in omissions])):
        return False
    return all([is_course(schema, question, course) for course in courses])


def are_goals(question, thing):
    """Whether this is an ascending tuple of numbers of goals."""
    if not isinstance(thing, tuple) or not all([is_integer(goal) for goal in thing]):
        return False
    return is_ascending(thing) and all([0 <= goal < len(goals_of(question)) for goal in thing])


def is_course(schema, question, thing):
    """Whether this is a course."""
    if not isinstance(thing, tuple) or len(thing) != 3:
        return False
    goals, order, paths = thing
    if not are_goals(question, goals) or goals == () or not isinstance(order, tuple) or not isinstance(paths, tuple):
        return False
    if not all([is_name(alias) for alias in order]) or len(paths) != len(order):
        return False
    if sorted(order) != sorted([alias for alias, _ in question[0]]):
        return False
    return all([is_path(schema, question, goals, order[: at + 1], path) for at, path in enumerate(paths)])


def is_path(schema, question, goals, aliases, thing):
    """Whether this is a path of the last one of some aliases, those before it being bound."""
    if not isinstance(thing, tuple) or thing == ():
        return False
    if thing[0] == "rows" or thing[0] == "first":
        return len(thing) == 1
    if thing[0] == "index":
        return len(thing) == 4 and is_index_path(schema, question, aliases, thing)
    if thing[0] != "between" or len(thing) != 5 or not is_indexed(schema, question, aliases[-1], thing[1]):
        return False
    return is_span(thing[2], thing[3]) and isinstance(thing[4], tuple) and len(thing[4]) == len(goals)


def is_indexed(schema, question, alias, thing):
    """Whether this is a column of an alias with an index."""
    tables = [table for name, table in question[0] if name == alias]
    return thing in [column for table in schema for column in table[3] if table[0] in tables]


def is_index_path(schema, question, aliases, path):
    """Whether this tuple of four is an index path."""
    _, column, place, outcomes = path
    if not is_indexed(schema, question, aliases[-1], column) or not is_place(place):
        return False
    if place not in main_parts(question) or not isinstance(outcomes, tuple) or outcomes == ():
        return False
    if outcomes != tuple([outcome for outcome in OUTCOMES if outcome in outcomes]):
        return False
    return has_index_form(question, aliases, column, part_at(question, place))


def has_index_form(question, aliases, column, leaf):
    """Whether a leaf compares a column of the last alias with what the aliases before it tell."""
    if leaf[0] not in LEAVES:
        return False
    mine = ("column", aliases[-1], column)
    if leaf[0] == "is":
        return leaf[1] == mine
    pairs = [(leaf[1], leaf[2]), (leaf[2], leaf[1])]
    return any([one == mine and is_told_by(aliases[:-1], other) for one, other in pairs])


def is_told_by(aliases, term):
    """Whether a term has no inner question, and columns of some aliases alone."""
    return inner_refs(term) == [] and all([column[1] in aliases for column in outer_columns(term)])


def are_paths_accepted(question, course):
    """Whether each index path and each first path of a course lets nothing be missed."""
    goals, order, paths = course
    return all([is_path_accepted(question, goals, alias, path) for alias, path in zip(order, paths)])


def is_path_accepted(question, goals, alias, path):
    """Whether a path lets nothing be missed, if it is no between path."""
    if path[0] == "first":
        return goals[0] != 0 and not is_named_before(question, goals, alias)
    if path[0] != "index":
        return True
    place = path[2]
    left = [outcome for outcome in by_form(part_at(question, place), place) if outcome not in path[3]]
    met = [goal for outcome in left for goal in possible(question, ((place, outcome),))]
    return not any([goal in met for goal in goals])


def is_named_before(question, goals, alias):
    """Whether a main part at or before the last one of some goals names an alias."""
    last = goals_of(question)[goals[-1]]
    return any([place <= last and alias in named(question, place) for place in main_parts(question)])
