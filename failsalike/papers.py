"""Papers: trees that show that a goal never holds, or only for some values of a column."""

from failsalike.errors import Failed, TooGreat
from failsalike.exact import is_place
from failsalike.frames import start_by
from failsalike.goals import goal_among, goals_of
from failsalike.parts import inner_refs, outer_columns
from failsalike.questions import main_parts, part_at
from failsalike.settling import Unsettled, View, passes, result_seen
from failsalike.trees import ANSWERS, END, behind, fits, has_node_form, head_of, states_behind, tree_of

WORDS = ("end", "kind", "most", "same", "word", "leaf")
# What a search meets beside ends and tests: a combination with the goal.
HIT = ("hit",)


class Task:
    """What a paper is to show."""

    def __init__(self, schema, question, goal, facts, about):
        self.question = question
        self.goal = goal
        self.places = goals_of(question)
        self.about = about
        parts = main_parts(question)
        self.hidden = [place for place in parts if inner_refs(part_at(question, place)) != []]
        self.starts = {alias: (alias,) for alias, _ in question[0]}
        tables = {alias: table for alias, table in question[0]}
        columns = [column for place in parts for column in outer_columns(part_at(question, place))]
        unknowns = {(alias, name): (tables[alias], name) for _, alias, name in columns}
        if about is not None:
            unknowns[(about[0], about[1])] = (tables[about[0]], about[1])
        self.first = start_by(schema, facts, unknowns)

    def view(self, state, known):
        """What is known at a node."""
        return View(state, self.starts, {}, self.hidden, known)


def paper_of(schema, question, goal, *facts, about=None, limit=2000):
    """A paper that a goal never holds, or only for values that about tells; None if there is none."""
    task = Task(schema, question, goal, facts, about)
    heads = []
    todo = [(task.first, {}, True)]
    while todo != []:
        state, known, is_looked_at = todo.pop()
        head = asked(task, state, known) if is_looked_at else END
        if head == HIT:
            return None
        heads.append(head)
        if len(heads) > limit:
            raise TooGreat(limit)
        todo.extend(list(reversed(further(state, known, head))))
    return tree_of(heads)


def asked(task, state, known):
    """What a search asks for at a node."""
    view = task.view(state, known)
    if is_narrow(task, state):
        return END
    wish = None
    try:
        if is_clear(task, view):
            return END
    except Unsettled as first:
        wish = first.test
    try:
        return HIT if goal_seen(task, view) == task.goal else END
    except Unsettled as lack:
        # Where the main part of the goal does not fail, nothing else need be asked.
        return lack.test if wish is None else wish


def further(state, known, head):
    """What is to be looked at behind a node: states, known outcomes, and whether the trees there are looked at."""
    if head == END:
        return []
    if head[0] != "leaf":
        return [(narrow, known, True) for narrow in states_behind(state, head)]
    place = head[1]
    return [(state, {**known, place: answer}, is_looked_at_for(place, answer)) for answer in ANSWERS]


def is_looked_at_for(place, answer):
    """Whether the tree behind an outcome of a main part is looked at; a told term is never false."""
    return place[0] == 1 or answer != "false"


def is_narrow(task, state):
    """Whether atoms contradict one another, or leave for the column of about the values alone that it tells."""
    if state.is_void:
        return True
    if task.about is None:
        return False
    unknown, low, high = task.about[:2], task.about[2], task.about[3]
    if state.kinds_of(unknown) != ("number",):
        return False
    ends = [state.settled_gap(unknown, (), high), state.settled_gap((), unknown, -low)]
    return ends == [True, True]


def is_clear(task, view):
    """Whether the main part of the goal never fails."""
    place = task.places[task.goal]
    if task.goal == 0 or place in task.hidden:
        return False
    try:
        passes(view, part_at(task.question, place), place)
        return True
    except Failed:
        return False


def goal_seen(task, view):
    """The number of the goal of the result of a combination; None if it has none."""
    return goal_among(task.places, result_seen(view, task.question))


def paper_holds(schema, question, goal, facts, thing, *, about=None):
    """Whether this is a right paper."""
    task = Task(schema, question, goal, facts, about)
    todo = [(thing, task.first, {})]
    while todo != []:
        node, state, known = todo.pop()
        if not has_node_form(node, WORDS) or not is_right_node(task, state, known, node):
            return False
        for tree, (narrow, more, is_looked_at) in zip(behind(node), further(state, known, head_of(node))):
            if is_looked_at:
                todo.append((tree, narrow, more))
            elif tree != END:
                return False
    return True


def is_right_node(task, state, known, node):
    """Whether a node is right, whatever stands behind it."""
    if node == END:
        return is_right_end(task, state, known)
    if node[0] != "leaf":
        return fits(state, head_of(node))
    return is_place(node[1]) and node[1] in task.hidden and node[1] not in known


def is_right_end(task, state, known):
    """Whether a paper may end here."""
    return asked(task, state, known) == END
