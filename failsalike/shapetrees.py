"""Trees of ledgers: that a claim is so for all stores of a shape."""

from failsalike.claims import Rows
from failsalike.errors import TooGreat
from failsalike.frames import start_by
from failsalike.loops import ways
from failsalike.settling import Unsettled, are_equal
from failsalike.stores import Store
from failsalike.trees import END, behind, fits, has_node_form, head_of, states_behind, tree_of

WORDS = ("end", "kind", "most", "same", "word")


class Case:
    """A claim for a shape."""

    def __init__(self, schema, facts, refs, shape, claim):
        self.tables = schema
        self.shape = shape
        self.claim = claim
        self.pairs = key_pairs(schema, shape)
        self.scene = Rows(shape, self.pairs == [])
        self.combinations = rows_by_aliases(refs, shape)
        columns = {table[0]: [name for name, _ in table[1]] for table in schema}
        unknowns = {}
        for table, count in shape:
            for number in range(count):
                for name in columns[table]:
                    unknowns[(table, number, name)] = (table, name)
        self.first = start_by(schema, facts, unknowns)


def key_pairs(schema, shape):
    """The pairs of values in key columns, any two rows of a table."""
    counts = {table: count for table, count in shape}
    found = []
    for table in schema:
        for column in table[2]:
            for number in range(counts.get(table[0], 0)):
                found.extend([((table[0], before, column), (table[0], number, column)) for before in range(number)])
    return found


def rows_by_aliases(refs, shape):
    """For each combination of a shape, ascending, what the unknowns of each alias begin with."""
    counts = {table: count for table, count in shape}
    lists = [list(range(counts[table])) for _, table in refs]
    found = []
    for numbers in ways(lists):
        found.append({alias: (table, number) for (alias, table), number in zip(refs, numbers)})
    return found


def looked_for(case, limit):
    """A right tree and None, or None and a store on which the claim is not so."""
    heads = []
    todo = [(case.first, 0)]
    while todo != []:
        state, at = todo.pop()
        word, found, now = looked_at(case, state, at)
        if word == "wrong":
            return (None, store_of(case, found))
        heads.append(END if word == "right" else found)
        if len(heads) > limit:
            raise TooGreat(limit)
        if word == "asks":
            todo.extend([(narrow, now) for narrow in reversed(states_behind(state, found))])
    return (tree_of(heads), None)


def looked_at(case, state, at):
    """What a node is to be, if the combinations before a number are settled, and how many are settled now.

    "right", "wrong" with a state by which the claim is not so, or "asks" with a test.
    """
    try:
        if state.is_void or any([is_surely_equal(state, one, other) for one, other in case.pairs]):
            return ("right", None, at)
        while at < len(case.combinations):
            word, found = case.claim.verdict(case.scene, state, case.combinations[at])
            if word == "right":
                return (word, None, at)
            if word == "wrong":
                # Rows that are equal in a key are no store; those that are surely so were looked at above.
                for one, other in case.pairs:
                    are_equal(found, (one, 0), (other, 0))
                return (word, found, at)
            at += 1
        return ("right", None, at)
    except Unsettled as lack:
        return ("asks", lack.test, at)


def is_surely_equal(state, one, other):
    """Whether two unknowns are equal, whatever they are."""
    try:
        return are_equal(state, (one, 0), (other, 0))
    except Unsettled:
        return False


def store_of(case, state):
    """A store of the shape by a solution of a state."""
    values = state.values_found()
    store = Store.of(case.tables)
    columns = {table[0]: [name for name, _ in table[1]] for table in case.tables}
    for table, count in case.shape:
        for number in range(count):
            row = [values[(table, number, name)] for name in columns[table]]
            store.put(table, *row)
    return store


def is_right_tree(case, thing):
    """Whether this is a right tree."""
    todo = [(thing, case.first, 0)]
    while todo != []:
        node, state, at = todo.pop()
        if not has_node_form(node, WORDS) or not fits(state, head_of(node)):
            return False
        word, _, now = looked_at(case, state, at)
        if node == END and word != "right":
            return False
        if node != END:
            narrows = states_behind(state, head_of(node))
            todo.extend([(tree, narrow, now) for tree, narrow in zip(behind(node), narrows)])
    return True
