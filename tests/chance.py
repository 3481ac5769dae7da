"""Schemas, stores and questions by chance, the same ones in each run: `rng` is a random.Random with a fixed seed."""

from failsalike.stores import Store
from tests.samples import R

KINDS = ("nothing", "number", "word")
NUMBERS = (0, 1, 2, 3, R, -R, R - 1)
WORDS = ("a", "b", "cup")


def some_kinds(rng):
    """A nonempty ascending tuple of kinds, often all of them."""
    if rng.random() < 0.5:
        return KINDS
    return tuple(sorted(rng.sample(KINDS, rng.randint(1, 3))))


def some_value(rng, kinds=KINDS):
    """A value of one of these kinds; small numbers are more frequent than great ones."""
    kind = rng.choice(kinds)
    if kind == "nothing":
        return None
    if kind == "word":
        return rng.choice(WORDS)
    return rng.choice(NUMBERS[:4]) if rng.random() < 0.8 else rng.choice(NUMBERS)


def some_schema(rng, tables=("t", "u", "v")):
    """Tables with columns of some kinds, some of them with indexes, few with keys."""
    schema = []
    for name in tables:
        names = rng.sample(("p", "q", "x", "y"), rng.randint(1, 3))
        columns = tuple((column, some_kinds(rng)) for column in names)
        keys = tuple(sorted(rng.sample(names, 1))) if rng.random() < 0.1 else ()
        indexes = tuple(sorted(rng.sample(names, rng.randint(0, len(names)))))
        schema.append((name, columns, keys, indexes))
    return tuple(schema)


def all_kinds(schema):
    """The schema with columns that let in everything, and without keys."""
    return tuple((name, tuple((c, KINDS) for c, _ in columns), (), indexes) for name, columns, _, indexes in schema)


def one_kind(schema, kind):
    """The schema with columns that let in one kind alone, and without keys."""
    return tuple((name, tuple((c, (kind,)) for c, _ in columns), (), indexes) for name, columns, _, indexes in schema)


def some_store(rng, schema, most=4):
    """A store with a few rows in each table, some of them with gaps between their numbers."""
    store = Store.of(schema)
    for name, columns, keys, _ in schema:
        for _ in range(rng.randint(0, most)):
            values = [some_value(rng, kinds) for _, kinds in columns]
            taken = [row for _, row in store.rows(name)]
            at = [k for k, (column, _) in enumerate(columns) if column in keys]
            if all(row[k] != values[k] for row in taken for k in at):
                number = store.put(name, *values)
                if rng.random() < 0.15:
                    store.take(name, number)
    return store


class Asker:
    """Builds one question."""

    def __init__(self, rng, schema, inner=2):
        self.rng = rng
        self.schema = schema
        self.columns = {name: [column for column, _ in columns] for name, columns, _, _ in schema}
        self.inner = inner
        self.made = 0

    def refs(self, many):
        pairs = []
        for _ in range(many):
            self.made += 1
            pairs.append(("abcdefghijklmnop"[self.made], self.rng.choice(self.schema)[0]))
        return tuple(pairs)

    def column(self, refs):
        alias, table = self.rng.choice(refs)
        return ("column", alias, self.rng.choice(self.columns[table]))

    def term(self, refs, outside, deep=2):
        chance = self.rng.random()
        if deep and chance < 0.25:
            return ("plus", self.term(refs, outside, deep - 1), self.rng.choice((0, 1, -1, 2, R, -R, R - 1)))
        if outside and self.inner and chance < 0.4:
            inner, within = self.inner_question(refs)
            return (self.rng.choice(("only", "first")), inner, self.term(within, False, 1))
        if chance < 0.6:
            return ("value", some_value(self.rng))
        return self.column(refs)

    def inner_question(self, refs):
        self.inner -= 1
        own = self.refs(self.rng.randint(1, 2))
        return (own, self.condition(refs + own, False, 1)), refs + own

    def leaf(self, refs, outside):
        chance = self.rng.random()
        if outside and self.inner and chance < 0.15:
            return ("exists", self.inner_question(refs)[0])
        if chance < 0.35:
            return ("is", self.term(refs, outside), self.rng.choice(KINDS))
        word = self.rng.choice(("less", "most", "same"))
        return (word, self.term(refs, outside), self.term(refs, outside))

    def condition(self, refs, outside, deep):
        chance = self.rng.random()
        if deep == 0 or chance < 0.3:
            return self.leaf(refs, outside)
        if chance < 0.45:
            return ("not", self.condition(refs, outside, deep - 1))
        one = self.condition(refs, outside, deep - 1)
        return (self.rng.choice(("and", "or")), one, self.condition(refs, outside, deep - 1))


def some_question(rng, schema, most_refs=2, inner=2, ordered=0.3, limited=0.3):
    """A question for a schema."""
    asker = Asker(rng, schema, inner)
    refs = asker.refs(rng.randint(1, most_refs))
    where = None if rng.random() < 0.1 else asker.condition(refs, True, rng.randint(0, 3))
    told = tuple(asker.term(refs, True) for _ in range(rng.randint(1, 2)))
    order = tuple(asker.column(refs) for _ in range(rng.randint(1, 3))) if rng.random() < ordered else ()
    limit = rng.randint(0, 5) if rng.random() < limited else None
    return (refs, where, told, order, limit)
