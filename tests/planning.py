"""Plans by chance, and what runs by them tell, to compare the program with."""

from failsalike.errors import TooGreat
from failsalike.facts import fact_holds, is_fact
from failsalike.goals import goals_of, possible
from failsalike.papers import paper_holds, paper_of
from failsalike.plans import chosen
from tests.everyvalue import goal_number, goal_places, has_inner, leaves, outside
from tests.oracle import Oracle

R = 10**12
KINDS = ("nothing", "number", "word")
OUTCOMES = ("true", "false", "fails")


def some_facts(rng, schema, often=0.2):
    facts = set()
    for name, columns, _, _ in schema:
        for column, _ in columns:
            if rng.random() < often:
                low, high = sorted((rng.choice((0, 1, -1, R - 1, -R)), rng.choice((0, 2, 3, R))))
                facts.add(("within", name, column, low, high))
            facts |= {("no", name, column, kind) for kind in KINDS if rng.random() < often / 2}
    return tuple(sorted(facts))


def index_paths(question, goals, alias, before, indexes):
    """The index paths of an alias that let nothing be missed, with no more outcomes than they need."""
    found = []
    for place, leaf in [] if question[1] is None else leaves(question[1], (1,)):
        if leaf[0] not in ("less", "most", "same", "is"):
            continue
        pairs = [(leaf[1], None)] if leaf[0] == "is" else [(leaf[1], leaf[2]), (leaf[2], leaf[1])]
        for mine, other in pairs:
            told = other is None or not has_inner(other) and all(name in before for name, _ in outside(other))
            if mine[0] == "column" and mine[1] == alias and mine[2] in indexes and told:
                needed = [
                    outcome
                    for outcome in OUTCOMES
                    if set(possible(question, ((place, outcome),))) & set(goals)
                    and (outcome != "fails" or "fails" in repr(goal_forms(leaf)))
                ]
                if needed:
                    found.append(("index", mine[2], place, tuple(needed)))
    return found


def goal_forms(leaf):
    """What a leaf may do by its form."""
    return ("true", "false", "fails") if leaf[0] != "is" or "plus" in repr(leaf) else ("true", "false")


def some_course(rng, schema, question, goals, paper=("end",), betweens=True):
    tables = dict(question[0])
    indexes = {table[0]: table[3] for table in schema}
    order = [alias for alias, _ in question[0]]
    rng.shuffle(order)
    paths = []
    for at, alias in enumerate(order):
        choices = [("rows",)] * 2 + index_paths(question, goals, alias, order[:at], indexes[tables[alias]]) * 2
        if 0 not in goals and not named_before(question, goals, alias):
            choices += [("first",)] * 2
        for column in indexes[tables[alias]] if betweens else ():
            low, high = sorted((rng.choice((0, 1, -1, -R)), rng.choice((0, 2, 3, R))))
            choices.append(("between", column, low, high, tuple([paper] * len(goals))))
        paths.append(rng.choice(choices))
    return (tuple(goals), tuple(order), tuple(paths))


def names(part, alias):
    if not isinstance(part, tuple):
        return False
    return part[:2] == ("column", alias) or any(names(below, alias) for below in part)


def named_before(question, goals, alias):
    last = goal_places(question)[max(goals)]
    parts = [] if question[1] is None else leaves(question[1], (1,))
    parts = parts + [((2, at), term) for at, term in enumerate(question[2])]
    return any(place <= last and names(part, alias) for place, part in parts)


def some_plan(rng, schema, question, betweens=True, often=0.2):
    """A plan that is accepted but for its papers, which are no papers."""
    goals = list(range(len(goals_of(question))))
    courses = []
    for _ in range(rng.randint(1, 3)):
        some = sorted(rng.sample(goals, rng.randint(1, len(goals))))
        courses.append(some_course(rng, schema, question, some, rng.choice((None, "x", [3])), betweens))
    done = {goal for course in courses for goal in course[0]}
    omitted = [(goal, rng.choice((None, (), ["end"]))) for goal in goals if goal not in done or rng.random() < 0.1]
    return (tuple(courses), tuple(omitted), some_facts(rng, schema, often))


def path_rows(store, asked, course, bound):
    """What the path of the next ref fetches for bound rows, looked at row by row."""
    alias, path = course[1][len(bound)], course[2][len(bound)]
    table = dict(asked[0])[alias]
    oracle = Oracle(store)
    numbers = [number for number, _ in store.rows(table)]
    if path[0] in ("rows", "first"):
        return numbers if path[0] == "rows" else numbers[:1]
    found = []
    for number in numbers:
        row = list(bound) + [(alias, table, number)]
        value = oracle.eval(row, ("column", alias, path[1]), ())[1]
        if path[0] == "between":
            fits = isinstance(value, int) and path[2] <= value <= path[3]
        else:
            leaf = asked
            for step in path[2]:
                leaf = leaf[step]
            got = oracle.eval(row, leaf, path[2])
            fits = (got[0] if got[0] == "fails" else "true" if got[1] else "false") in path[3]
        if fits:
            found.append((oracle.rank(value), number))
    return [number for _, number in sorted(found)]


def taken(store, question, course, numbers):
    """Whether a course whose index paths fetch what they need fetches a combination."""
    by_alias, tables = dict(numbers), dict(question[0])
    columns = {table[0]: [column for column, _ in table[1]] for table in store.schema}
    for alias, path in zip(course[1], course[2]):
        rows = dict(store.rows(tables[alias]))
        if path[0] == "first" and by_alias[alias] != min(rows):
            return False
        if path[0] == "between":
            value = rows[by_alias[alias]][columns[tables[alias]].index(path[1])]
            if not isinstance(value, int) or not path[2] <= value <= path[3]:
                return False
    return True


def plan_outcome(store, question, plan):
    """The outcome of the combinations that are fetched by some course with the goal of their result."""
    refs, _, _, order, limit = question
    oracle, told, goals = Oracle(store), [], goal_places(question)
    for way in [] if limit == 0 else oracle.ways(refs):
        if limit is not None and len(told) == limit and not order:
            break
        result = oracle.result(question, way)
        goal = goal_number(goals, result)
        numbers = list(zip([alias for alias, _ in refs], way))
        if not any(goal in course[0] and taken(store, question, course, numbers) for course in plan[0]):
            continue
        if result[0] == "fails":
            return (() if order else tuple(told), result[1:])
        told.append((way, result[1]))
    for column in reversed(order):
        told.sort(key=lambda row: oracle.rank(oracle.eval(oracle.bind([], refs, row[0]), column, ())[1]))
    return (tuple(told[:limit]), None)


def are_alike(question, one, other):
    """Whether two outcomes are alike."""
    many = len(question[0])
    shorter = [failure and (failure[0], failure[2][:many]) for _, failure in (one, other)]
    return one[0] == other[0] and shorter[0] == shorter[1]


class Wrong(Exception):
    """What is looked at is no accepted plan."""


def need(answer):
    if not answer:
        raise Wrong


def exact(thing):
    """Whether a thing is made of tuples, strings and integers alone, none of them a bool."""
    if isinstance(thing, tuple):
        return all(exact(part) for part in thing)
    return type(thing) in (int, str)


def is_accepted(schema, question, plan):
    """Whether a plan is accepted: looked at part by part, the papers as paper_holds judges them."""
    try:
        need(type(plan) is tuple and len(plan) == 3 and all(type(part) is tuple for part in plan))
        courses, omissions, facts = plan
        goals = goal_places(question)
        need(exact(facts) and all(is_fact(schema, fact) for fact in facts))
        need(list(facts) == sorted(set(facts)))
        need(all(type(pair) is tuple and len(pair) == 2 and type(pair[0]) is int for pair in omissions))
        omitted = [pair[0] for pair in omissions]
        need(omitted == sorted(set(omitted)) and all(0 <= goal < len(goals) for goal in omitted))
        need(all(paper_holds(schema, question, goal, facts, paper) for goal, paper in omissions))
        for course in courses:
            look_at_course(schema, question, facts, goals, course)
            omitted += course[0]
        need(set(omitted) == set(range(len(goals))))
        return True
    except Wrong:
        return False


def look_at_course(schema, question, facts, goals, course):
    need(type(course) is tuple and len(course) == 3 and all(type(part) is tuple for part in course))
    numbers, order, paths = course
    need(exact(numbers) and all(type(number) is int for number in numbers) and len(numbers) > 0)
    need(list(numbers) == sorted(set(numbers)) and 0 <= numbers[0] and numbers[-1] < len(goals))
    need(all(type(alias) is str for alias in order) and len(order) == len(question[0]))
    need(set(order) == {alias for alias, _ in question[0]} and len(paths) == len(order))
    for at, (alias, path) in enumerate(zip(order, paths)):
        need(type(path) is tuple and len(path) > 0 and type(path[0]) is str)
        if path == ("first",):
            need(0 not in numbers and not named_before(question, numbers, alias))
        elif path[0] == "index":
            need(len(path) == 4 and exact(path))
            look_at_index(schema, question, numbers, order[: at + 1], path)
        elif path[0] == "between":
            need(len(path) == 5 and has_index(schema, question, alias, path[1]))
            low, high, papers = path[2:]
            need(type(low) is int and type(high) is int and -R <= low <= high <= R)
            need(type(papers) is tuple and len(papers) == len(numbers))
            about = (alias, path[1], low, high)
            for goal, paper in zip(numbers, papers):
                need(paper_holds(schema, question, goal, facts, paper, about=about))
        else:
            need(path == ("rows",))


def has_index(schema, question, alias, column):
    table = dict(question[0])[alias]
    return any(column in indexes for name, _, _, indexes in schema if name == table)


def look_at_index(schema, question, goals, order, path):
    _, column, place, outcomes = path
    need(has_index(schema, question, order[-1], column))
    need(type(outcomes) is tuple and len(outcomes) > 0 and set(outcomes) <= set(OUTCOMES))
    need(list(outcomes) == [outcome for outcome in OUTCOMES if outcome in outcomes])
    parts = dict([] if question[1] is None else leaves(question[1], (1,)))
    need(type(place) is tuple and place in parts and parts[place][0] in ("less", "most", "same", "is"))
    leaf = parts[place]
    mine = ("column", order[-1], column)
    if leaf[0] == "is":
        need(leaf[1] == mine)
    else:
        sides = [side for other, side in ((leaf[1], leaf[2]), (leaf[2], leaf[1])) if other == mine]
        others = [alias for alias, _ in question[0] if alias not in order[:-1]]
        need(any(not has_inner(side) and not any(names(side, alias) for alias in others) for side in sides))
    for outcome in goal_forms(leaf):
        if outcome not in outcomes:
            need(not set(possible(question, ((place, outcome),))) & set(goals))


def right_plan(rng, schema, store, question):
    """An accepted plan whose named facts are so on a store; between paths and omissions have right papers."""
    goals = list(range(len(goals_of(question))))
    facts = tuple(fact for fact in some_facts(rng, schema, 0.3) if fact_holds(store, fact))
    if rng.random() < 0.5:
        facts = tuple(sorted({*facts, *chosen(store, question)[2]}))
    omissions = []
    for goal in goals:
        paper = some_paper(schema, question, goal, facts, None) if rng.random() < 0.5 else None
        if paper is not None:
            omissions.append((goal, paper))
    rest = [goal for goal in goals if goal not in dict(omissions) or rng.random() < 0.1]
    rng.shuffle(rest)
    courses = []
    while rest:
        many = rng.randint(1, len(rest))
        some = sorted({*rest[:many], *rng.sample(goals, rng.choice((0, 0, 0, 1)))})
        courses.append(papered(schema, question, facts, some_course(rng, schema, question, some)))
        rest = rest[many:]
    if courses and rng.random() < 0.1:
        courses.append(rng.choice(courses))
    return (tuple(courses), tuple(omissions), facts)


def papered(schema, question, facts, course):
    """A course with right papers; where there are none, all rows are fetched instead."""
    goals, order, paths = course
    made = []
    for alias, path in zip(order, paths):
        if path[0] == "between":
            about = (alias, *path[1:4])
            papers = tuple(some_paper(schema, question, goal, facts, about) for goal in goals)
            path = ("rows",) if None in papers else (*path[:4], papers)
        made.append(path)
    return (goals, order, tuple(made))


def some_paper(schema, question, goal, facts, about):
    try:
        return paper_of(schema, question, goal, *facts, about=about, limit=300)
    except TooGreat:
        return None
