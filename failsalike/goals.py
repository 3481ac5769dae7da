"""Goals: what the result of a combination may be, and which of them outcomes of main parts leave possible."""

from failsalike.errors import Failed
from failsalike.evaluating import condition_holds, term_value
from failsalike.parts import BOTH, may_fail
from failsalike.questions import main_parts, named, part_at

OUTCOMES = ("true", "false", "fails")
EXCHANGED = {"true": "false", "false": "true", "fails": "fails"}


def goals_of(question):
    """The match, and the places of all main parts that can fail."""
    places = [place for place in main_parts(question) if may_fail(part_at(question, place))]
    return tuple([()] + places)


def goal_of(question, result):
    """The number of the goal of a result; None if where does not hold."""
    return goal_among(goals_of(question), result)


def goal_among(goals, result):
    """The number of the goal of a result among all goals; None if it is none of them."""
    if result[0] == "none":
        return None
    if result[0] == "match":
        return 0
    around = [at for at, goal in enumerate(goals) if at > 0 and result[2][: len(goal)] == goal]
    return around[0] if around != [] else None


def outcomes_of(question, known, place):
    """The outcomes that a condition in where, or a told term, may have by known outcomes."""
    part = part_at(question, place)
    found = [outcome for at, outcome in known if at == place]
    if part[0] == "not":
        found = [EXCHANGED[outcome] for outcome in outcomes_of(question, known, place + (1,))]
    elif part[0] in BOTH:
        found = joined(part[0], outcomes_of(question, known, place + (1,)), outcomes_of(question, known, place + (2,)))
    elif found == []:
        found = by_form(part, place)
    return tuple([outcome for outcome in OUTCOMES if outcome in found])


def joined(word, firsts, seconds):
    """The outcomes of two conditions that are joined by a word."""
    going_on = "true" if word == "and" else "false"
    if going_on not in firsts:
        return firsts
    return [outcome for outcome in firsts if outcome != going_on] + list(seconds)


def by_form(part, place):
    """All outcomes that a main part at a place may have."""
    found = ["true"] if place[0] == 2 else ["true", "false"]
    return found + ["fails"] if may_fail(part) else found


def possible(question, known):
    """The numbers of the goals that are possible by known outcomes."""
    goals = goals_of(question)
    return tuple([at for at, goal in enumerate(goals) if is_possible(question, known, goal)])


def is_possible(question, known, goal):
    """Whether a goal is possible by known outcomes."""
    if goal != () and "fails" not in outcomes_of(question, known, goal):
        return False
    if goal != () and goal[0] == 1:
        return all([goes_on(question, known, goal, end) for end in range(1, len(goal))])
    if question[1] is not None and "true" not in outcomes_of(question, known, (1,)):
        return False
    before = len(question[2]) if goal == () else goal[1]
    return all(["true" in outcomes_of(question, known, (2, at)) for at in range(before)])


def goes_on(question, known, goal, end):
    """Whether the condition around a leaf, at the beginning of its place, may let it be evaluated."""
    if goal[end] == 1:
        # What stands behind not, and the first of two conditions, is always evaluated.
        return True
    going_on = "true" if part_at(question, goal[:end])[0] == "and" else "false"
    return going_on in outcomes_of(question, known, goal[:end] + (1,))


def tested(store, question, bound):
    """The known outcomes of all complete main parts for bound rows."""
    aliases = [triple[0] for triple in bound]
    complete = [
        place for place in main_parts(question) if all([alias in aliases for alias in named(question, place)])
    ]
    return tuple([(place, outcome_at(store, question, bound, place)) for place in complete])


def outcome_at(store, question, bound, place):
    """The outcome of a main part, evaluated by itself."""
    part = part_at(question, place)
    try:
        if place[0] == 1:
            return "true" if condition_holds(store, bound, part, place) else "false"
        term_value(store, bound, part, place)
        return "true"
    except Failed:
        return "fails"
