"""What questions mean, written down a second time and in another way, to compare the program with."""

from itertools import product

R = 10**12


def number(value):
    return isinstance(value, int)


class Oracle:
    """Evaluates by lists of what happens: ("ok", value) or ("fails", word, place, numbers)."""

    def __init__(self, store):
        self.rows = {name: dict(store.rows(name)) for name, _, _, _ in store.schema}
        self.at = {name: {pair[0]: k for k, pair in enumerate(columns)} for name, columns, _, _ in store.schema}

    def ways(self, refs):
        return product(*[sorted(self.rows[table]) for _, table in refs])

    def bind(self, bound, refs, numbers):
        return bound + [(alias, table, k) for (alias, table), k in zip(refs, numbers)]

    def fails(self, word, place, bound):
        return ("fails", word, place, tuple(k for _, _, k in bound))

    def eval(self, bound, part, place):
        return getattr(self, "eval_" + part[0])(bound, part, place)

    def eval_value(self, bound, part, place):
        return ("ok", part[1])

    def eval_column(self, bound, part, place):
        [(table, k)] = [(table, k) for alias, table, k in bound if alias == part[1]]
        return ("ok", self.rows[table][k][self.at[table][part[2]]])

    def eval_plus(self, bound, part, place):
        got = self.eval(bound, part[1], (*place, 1))
        if got[0] == "fails":
            return got
        if not number(got[1]):
            return self.fails("kind", place, bound)
        total = got[1] + part[2]
        return ("ok", total) if abs(total) <= R else self.fails("range", place, bound)

    def matches(self, bound, inner, place):
        """What the loops of an inner question meet: rows that match, and at last perhaps a failure."""
        met = []
        for numbers in self.ways(inner[0]):
            further = self.bind(bound, inner[0], numbers)
            got = self.eval(further, inner[1], (*place, 1))
            if got[0] == "fails":
                return met + [got]
            if got[1]:
                met.append(("rows", further))
        return met

    def eval_exists(self, bound, part, place):
        met = self.matches(bound, part[1], (*place, 1))
        if met and met[0][0] == "fails":
            return met[0]
        return ("ok", bool(met))

    def eval_first(self, bound, part, place):
        met = self.matches(bound, part[1], (*place, 1))
        if not met:
            return ("ok", None)
        return met[0] if met[0][0] == "fails" else self.eval(met[0][1], part[2], (*place, 2))

    def eval_only(self, bound, part, place):
        met = self.matches(bound, part[1], (*place, 1))
        if not met:
            return ("ok", None)
        if met[0][0] == "fails":
            return met[0]
        got = self.eval(met[0][1], part[2], (*place, 2))
        if got[0] == "fails" or len(met) == 1:
            return got
        return met[1] if met[1][0] == "fails" else self.fails("several", place, met[1][1])

    def pair(self, bound, part, place):
        """Both sides of a comparison, or a failure."""
        one = self.eval(bound, part[1], (*place, 1))
        if one[0] == "fails":
            return one
        other = self.eval(bound, part[2], (*place, 2))
        return other if other[0] == "fails" else ("ok", (one[1], other[1]))

    def eval_less(self, bound, part, place):
        got = self.pair(bound, part, place)
        if got[0] == "fails":
            return got
        if not all(number(side) for side in got[1]):
            return self.fails("kind", place, bound)
        least = 1 if part[0] == "less" else 0
        return ("ok", got[1][1] - got[1][0] >= least)

    eval_most = eval_less

    def eval_same(self, bound, part, place):
        got = self.pair(bound, part, place)
        if got[0] == "fails":
            return got
        return self.fails("nothing", place, bound) if None in got[1] else ("ok", got[1][0] == got[1][1])

    def eval_is(self, bound, part, place):
        got = self.eval(bound, part[1], (*place, 1))
        if got[0] == "fails":
            return got
        kinds = {type(None): "nothing", int: "number", str: "word"}
        return ("ok", kinds[type(got[1])] == part[2])

    def eval_not(self, bound, part, place):
        got = self.eval(bound, part[1], (*place, 1))
        return got if got[0] == "fails" else ("ok", not got[1])

    def eval_and(self, bound, part, place):
        got = self.eval(bound, part[1], (*place, 1))
        decides = got == ("ok", part[0] == "or")
        return got if got[0] == "fails" or decides else self.eval(bound, part[2], (*place, 2))

    eval_or = eval_and

    def result(self, question, numbers):
        bound = self.bind([], question[0], numbers)
        if question[1] is not None:
            got = self.eval(bound, question[1], (1,))
            if got != ("ok", True):
                return got if got[0] == "fails" else ("none",)
        values = []
        for at, term in enumerate(question[2]):
            got = self.eval(bound, term, (2, at))
            if got[0] == "fails":
                return got
            values.append(got[1])
        return ("match", tuple(values))

    def outcome(self, question):
        refs, _, _, order, limit = question
        told = []
        for numbers in [] if limit == 0 else self.ways(refs):
            if limit is not None and len(told) == limit and not order:
                break
            got = self.result(question, numbers)
            if got[0] == "fails":
                return (() if order else tuple(told), got[1:])
            if got[0] == "match":
                told.append((numbers, got[1]))
        # Sorting is stable: by the last column first.
        for column in reversed(order):
            told.sort(key=lambda row: self.rank(self.eval(self.bind([], refs, row[0]), column, ())[1]))
        return (tuple(told[:limit]), None)

    def rank(self, value):
        return (value is not None, isinstance(value, str), value if value is not None else 0)


def oracle_outcome(store, question):
    return Oracle(store).outcome(question)


def oracle_result(store, question, numbers):
    return Oracle(store).result(question, numbers)
