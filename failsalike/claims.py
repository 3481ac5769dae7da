"""What ledgers claim, looked at one combination after the other.

A verdict is a pair: "on" if the next combination is to be looked at, "right" if the claim is so whatever it has,
"wrong" if it is not so; and with "wrong" a state by which it is not so.
"""

from failsalike.goals import goal_among, goals_of
from failsalike.settling import Unsettled, View, all_hold, are_equal, has_kind, result_seen
from failsalike.states import narrowed_by
from failsalike.trees import states_behind

ON = ("on", None)
RIGHT = ("right", None)


class Rows:
    """The rows of a shape; a claim may part their values freely if they have no keys."""

    def __init__(self, shape, is_free):
        self.counts = {table: count for table, count in shape}
        self.is_free = is_free


class Never:
    """The claim that no combination has a goal as the goal of its result."""

    def __init__(self, question, goal):
        self.question = question
        self.goal = goal
        self.places = goals_of(question)

    def verdict(self, rows, state, combination):
        """Whether the claim is so for a combination."""
        result = result_by(rows, state, self.question, combination)
        return ("wrong", state) if goal_among(self.places, result) == self.goal else ON


class Alike:
    """The claim that two questions have alike outcomes."""

    def __init__(self, one, other):
        self.one = one
        self.other = other

    def verdict(self, rows, state, combination):
        """Whether the claim is so for a combination, if it is so for those before."""
        if self.one[4] == 0:
            return RIGHT
        one = result_by(rows, state, self.one, combination)
        other = result_by(rows, state, self.other, combination)
        if one[0] != other[0] or one[0] == "fails" and one[1] != other[1]:
            return ("wrong", state)
        if one[0] == "fails":
            return RIGHT
        return ON if one[0] == "none" else equal_verdict(rows, state, one[1], other[1])


class Fetching:
    """The claim that the runs by a plan have outcomes alike to that of the written run."""

    def __init__(self, question, plan, is_careful):
        self.question = question
        self.courses = plan[0]
        self.places = goals_of(question)
        # Whether a between path asks for the kind of a value even if no number of its range is left.
        self.is_careful = is_careful

    def verdict(self, rows, state, combination):
        """Whether the claim is so for a combination, if it is so for those before."""
        if self.question[4] == 0:
            return RIGHT
        result = result_by(rows, state, self.question, combination)
        if result[0] == "none":
            return ON
        goal = goal_among(self.places, result)
        courses = [course for course in self.courses if goal in course[0]]
        careful = self.is_careful
        missed = differing(rows, state, lambda held: is_fetched(held, courses, combination, careful))
        if missed is not None:
            return ("wrong", missed)
        return RIGHT if result[0] == "fails" else ON


def result_by(rows, state, question, combination):
    """The result of a combination at a state."""
    return result_seen(View(state, combination, rows.counts, (), {}), question)


def equal_verdict(rows, state, ones, others):
    """Whether two tuples of told values are equal."""
    if len(ones) != len(others):
        return ("wrong", state)
    parted = differing(rows, state, lambda held: are_all_equal(held, ones, others))
    return ON if parted is None else ("wrong", parted)


def are_all_equal(state, ones, others):
    """Whether values are equal, one by one."""
    return all([are_equal(state, one, other) for one, other in zip(ones, others)])


def differing(rows, state, check):
    """A state by which a check does not hold; None if it holds; otherwise it raises that a test is not settled."""
    try:
        return None if check(state) else state
    except Unsettled as lack:
        # With keys, such a state may have no solution whose rows are unlike.
        found = sought(states_behind(state, lack.test), check) if rows.is_free else None
        if found is None:
            raise
        return found


def sought(states, check):
    """A state behind some states by which a check does not hold; None if it always holds."""
    todo = [state for state in states if not state.is_void]
    while todo != []:
        state = todo.pop()
        try:
            if not check(state):
                return state
        except Unsettled as lack:
            todo.extend([narrow for narrow in states_behind(state, lack.test) if not narrow.is_void])
    return None


def is_fetched(state, courses, combination, careful):
    """Whether some of the courses fetches a combination; all between paths of a course are settled."""
    for _, order, paths in courses:
        fetching = [is_taken(state, combination[alias], path, careful) for alias, path in zip(order, paths)]
        if all(fetching):
            return True
    return False


def is_taken(state, row, path, careful):
    """Whether a path fetches a row, that of an index path being one that its course needs."""
    if path[0] == "first":
        return row[1] == 0
    if path[0] != "between":
        return True
    unknown, low, high = (*row, path[1]), path[2], path[3]
    tests = [("most", unknown, (), high), ("most", (), unknown, -low)]
    if not careful and narrowed_by(state, tests).is_void:
        return False
    if not has_kind(state, (unknown, 0), "number"):
        return False
    return all_hold([(state.settled_alone(test), test) for test in tests])
