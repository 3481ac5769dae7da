"""The courses for one goal that are accepted, and the one that costs least."""

from itertools import permutations

from failsalike.goals import OUTCOMES, by_form, possible
from failsalike.paths import rows_of, table_of
from failsalike.planforms import has_index_form, is_path_accepted
from failsalike.questions import main_parts, named, part_at

SUBSETS = (
    ("fails",),
    ("false",),
    ("false", "fails"),
    ("true",),
    ("true", "fails"),
    ("true", "false"),
    ("true", "false", "fails"),
)


class Options:
    """The paths that each alias of a question may have on a store."""

    def __init__(self, store, question):
        self.question = question
        self.aliases = [alias for alias, _ in question[0]]
        # By aliases: columns with an index, and the leaves that look rows up there.
        self.leaves = {alias: leaves_of_indexes(store, question, alias) for alias in self.aliases}
        self.store = store
        # By the places of these leaves and outcomes: the goals that are possible then.
        places = {place: True for found in self.leaves.values() for _, place in found}
        self.goals = {}
        for place in places:
            for outcome in by_form(part_at(question, place), place):
                self.goals[(place, outcome)] = possible(question, ((place, outcome),))


def leaves_of_indexes(store, question, alias):
    """Pairs of a column with an index and the place of a leaf that compares it, whatever is bound before."""
    table = table_of(question, alias)
    indexed = [column for entry in store.schema if entry[0] == table for column in entry[3]]
    others = [other for other, _ in question[0] if other != alias]
    found = []
    for column in indexed:
        for place in main_parts(question):
            if has_index_form(question, (*others, alias), column, part_at(question, place)):
                found.append((column, place))
    return found


def paths_of(options, goal, alias):
    """For each accepted path of an alias, how many rows it has, itself, and the aliases that must be bound before."""
    question = options.question
    paths = [(path, ()) for path in (("first",), ("rows",)) if is_path_accepted(question, (goal,), alias, path)]
    for column, place in options.leaves[alias]:
        needed = [outcome for outcome in OUTCOMES if goal in options.goals.get((place, outcome), ())]
        before = [other for other in named(question, place) if other != alias]
        for outcomes in SUBSETS:
            if all([outcome in outcomes for outcome in needed]):
                paths.append((("index", column, place, outcomes), before))
    return [(rows_of(options.store, question, alias, path), path, before) for path, before in paths]


def least_course(options, goal):
    """The course for a goal that costs least; of these the least one as a tuple."""
    choices = {alias: paths_of(options, goal, alias) for alias in options.aliases}
    best = None
    for order in permutations(options.aliases):
        spent, paths = least_paths(order, choices)
        found = (spent, order, paths)
        best = found if best is None else min(best, found)
    return ((goal,), best[1], best[2])


def least_paths(order, choices):
    """The least cost for an order, and the least paths with this cost."""
    spent = 0
    many = 1
    paths = []
    for at, alias in enumerate(order):
        fitting = [
            (count, path) for count, path, before in choices[alias] if all([other in order[:at] for other in before])
        ]
        if many == 0:
            # Nothing is fetched any more, whatever the path has.
            fitting = [(0, path) for _, path in fitting]
        count, path = min(fitting)
        many *= count
        spent += many
        paths.append(path)
    return (spent, tuple(paths))
