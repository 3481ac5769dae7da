"""Plans: which are accepted, and which one is chosen."""

from failsalike.courses import Options, least_course
from failsalike.errors import Failed
from failsalike.facts import many_of
from failsalike.frames import start_by
from failsalike.goals import goals_of
from failsalike.papers import paper_holds
from failsalike.parts import inner_refs, outer_columns
from failsalike.planforms import is_accepted_form
from failsalike.questions import part_at
from failsalike.settling import Unsettled, View, passes
from failsalike.trees import END


def plan_holds(schema, question, thing):
    """Whether this is an accepted plan."""
    if not is_accepted_form(schema, question, thing):
        return False
    courses, omissions, facts = thing
    for goal, paper in omissions:
        if not paper_holds(schema, question, goal, facts, paper):
            return False
    return all([are_papers_right(schema, question, facts, course) for course in courses])


def are_papers_right(schema, question, facts, course):
    """Whether the papers of the between paths of a course are right."""
    goals, order, paths = course
    for alias, path in zip(order, paths):
        if path[0] == "between":
            about = (alias, path[1], path[2], path[3])
            for goal, paper in zip(goals, path[4]):
                if not paper_holds(schema, question, goal, facts, paper, about=about):
                    return False
    return True


def facts_of(store, question, place):
    """The named facts about the columns that a main part names outside of inner questions, ascending."""
    columns = columns_at(question, place)
    found = [fact for table, name in columns.values() for fact in facts_about(store, table, name)]
    return tuple(sorted(list({fact: True for fact in found})))


def columns_at(question, place):
    """By the unknowns of a main part, pairs of tables and columns."""
    tables = {alias: table for alias, table in question[0]}
    columns = outer_columns(part_at(question, place))
    return {(alias, name): (tables[alias], name) for _, alias, name in columns}


def facts_about(store, table, column):
    """The named facts about a column."""
    declared = [pair[1] for entry in store.schema for pair in entry[1] if (entry[0], pair[0]) == (table, column)][0]
    facts = store.facts(table, column)
    found = [("no", table, column, kind) for kind in declared if many_of(facts, kind) == 0]
    if facts.numbers > 0:
        found.append(("within", table, column, facts.least, facts.greatest))
    return found


def never_fails(store, question, place, facts):
    """Whether a main part has no inner question and cannot fail, by some facts about its columns."""
    part = part_at(question, place)
    if inner_refs(part) != []:
        return False
    state = start_by(store.schema, facts, columns_at(question, place))
    if state.is_void:
        return True
    try:
        passes(View(state, {alias: (alias,) for alias, _ in question[0]}, {}, (), {}), part, place)
        return True
    except Failed:
        return False
    except Unsettled:
        return False


def chosen(store, question):
    """The chosen plan."""
    goals = goals_of(question)
    omitted = {}
    for goal in range(1, len(goals)):
        facts = facts_of(store, question, goals[goal])
        if never_fails(store, question, goals[goal], facts):
            omitted[goal] = facts
    options = Options(store, question)
    courses = [least_course(options, goal) for goal in range(len(goals)) if goal not in omitted]
    named_facts = {fact: True for facts in omitted.values() for fact in facts}
    # The main part of an omitted goal never fails by itself: a paper may end at once.
    return (tuple(courses), tuple([(goal, END) for goal in omitted]), tuple(sorted(list(named_facts))))
