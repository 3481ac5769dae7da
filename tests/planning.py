"""Plans by chance, and what runs by them tell, to compare the program with."""

from failsalike.goals import goals_of, possible
from tests.everyvalue import goal_number, goal_places, leaves, outside, has_inner
from tests.oracle import Oracle

R = 10**12
KINDS = ("nothing", "number", "word")
OUTCOMES = ("true", "false", "fails")


def some_facts(rng, schema, often=0.2):
    facts = set()
    for name, columns, _, _ in schema:
        for column, _ in columns:
            if rng.random() < often:
                low, high = sorted((rng.choice((0, 1, -1, R - 1, -R)), rng.choice((0, 2, 3, R))))
                facts.add(("within", name, column, low, high))
            facts |= {("no", name, column, kind) for kind in KINDS if rng.random() < often / 2}
    return tuple(sorted(facts))


def index_paths(question, goals, alias, before, indexes):
    """The index paths of an alias that let nothing be missed, with no more outcomes than they need."""
    found = []
    for place, leaf in [] if question[1] is None else leaves(question[1], (1,)):
        if leaf[0] not in ("less", "most", "same", "is"):
            continue
        pairs = [(leaf[1], None)] if leaf[0] == "is" else [(leaf[1], leaf[2]), (leaf[2], leaf[1])]
        for mine, other in pairs:
            told = other is None or not has_inner(other) and all(name in before for name, _ in outside(other))
            if mine[0] == "column" and mine[1] == alias and mine[2] in indexes and told:
                needed = [
                    outcome
                    for outcome in OUTCOMES
                    if set(possible(question, ((place, outcome),))) & set(goals)
                    and (outcome != "fails" or "fails" in repr(goal_forms(leaf)))
                ]
                if needed:
                    found.append(("index", mine[2], place, tuple(needed)))
    return found


def goal_forms(leaf):
    """What a leaf may do by its form."""
    return ("true", "false", "fails") if leaf[0] != "is" or "plus" in repr(leaf) else ("true", "false")


def some_course(rng, schema, question, goals, paper=("end",), betweens=True):
    tables = dict(question[0])
    indexes = {table[0]: table[3] for table in schema}
    order = [alias for alias, _ in question[0]]
    rng.shuffle(order)
    paths = []
    for at, alias in enumerate(order):
        choices = [("rows",)] * 2 + index_paths(question, goals, alias, order[:at], indexes[tables[alias]]) * 2
        if 0 not in goals and not named_before(question, goals, alias):
            choices += [("first",)] * 2
        for column in indexes[tables[alias]] if betweens else ():
            low, high = sorted((rng.choice((0, 1, -1, -R)), rng.choice((0, 2, 3, R))))
            choices.append(("between", column, low, high, tuple([paper] * len(goals))))
        paths.append(rng.choice(choices))
    return (tuple(goals), tuple(order), tuple(paths))


def names(part, alias):
    if not isinstance(part, tuple):
        return False
    return part[:2] == ("column", alias) or any(names(below, alias) for below in part)


def named_before(question, goals, alias):
    last = goal_places(question)[max(goals)]
    parts = [] if question[1] is None else leaves(question[1], (1,))
    parts = parts + [((2, at), term) for at, term in enumerate(question[2])]
    return any(place <= last and names(part, alias) for place, part in parts)


def some_plan(rng, schema, question, betweens=True, often=0.2):
    """A plan that is accepted but for its papers, which are no papers."""
    goals = list(range(len(goals_of(question))))
    courses = []
    for _ in range(rng.randint(1, 3)):
        some = sorted(rng.sample(goals, rng.randint(1, len(goals))))
        courses.append(some_course(rng, schema, question, some, rng.choice((None, "x", [3])), betweens))
    done = {goal for course in courses for goal in course[0]}
    omitted = [(goal, rng.choice((None, (), ["end"]))) for goal in goals if goal not in done or rng.random() < 0.1]
    return (tuple(courses), tuple(omitted), some_facts(rng, schema, often))


def taken(store, question, course, numbers):
    """Whether a course whose index paths fetch what they need fetches a combination."""
    by_alias, tables = dict(numbers), dict(question[0])
    columns = {table[0]: [column for column, _ in table[1]] for table in store.schema}
    for alias, path in zip(course[1], course[2]):
        rows = dict(store.rows(tables[alias]))
        if path[0] == "first" and by_alias[alias] != min(rows):
            return False
        if path[0] == "between":
            value = rows[by_alias[alias]][columns[tables[alias]].index(path[1])]
            if not isinstance(value, int) or not path[2] <= value <= path[3]:
                return False
    return True


def plan_outcome(store, question, plan):
    """The outcome of the combinations that are fetched by some course with the goal of their result."""
    refs, _, _, order, limit = question
    oracle, told, goals = Oracle(store), [], goal_places(question)
    for way in [] if limit == 0 else oracle.ways(refs):
        if limit is not None and len(told) == limit and not order:
            break
        result = oracle.result(question, way)
        goal = goal_number(goals, result)
        numbers = list(zip([alias for alias, _ in refs], way))
        if not any(goal in course[0] and taken(store, question, course, numbers) for course in plan[0]):
            continue
        if result[0] == "fails":
            return (() if order else tuple(told), result[1:])
        told.append((way, result[1]))
    for column in reversed(order):
        told.sort(key=lambda row: oracle.rank(oracle.eval(oracle.bind([], refs, row[0]), column, ())[1]))
    return (tuple(told[:limit]), None)


def are_alike(question, one, other):
    """Whether two outcomes are alike."""
    many = len(question[0])
    shorter = [failure and (failure[0], failure[2][:many]) for _, failure in (one, other)]
    return one[0] == other[0] and shorter[0] == shorter[1]
