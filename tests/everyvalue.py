"""Papers and ledgers judged by going through all values that unknowns may have, to compare the program with."""

from itertools import product

R = 10**12
KINDS = ("nothing", "number", "word")
OUTCOMES = ("true", "false", "fails")
FRESH = ("za", "zb", "zc", "zd", "ze", "zf", "zg", "zh")


def kind(value):
    return "nothing" if value is None else "word" if isinstance(value, str) else "number"


def has_inner(part):
    return isinstance(part, tuple) and (part[:1] in (("only",), ("first",), ("exists",)) or any(map(has_inner, part)))


def may_fail(part):
    words = (("less",), ("most",), ("same",), ("plus",), ("only",))
    return isinstance(part, tuple) and (part[:1] in words or any(map(may_fail, part)))


def leaves(condition, place):
    if condition[0] == "not":
        return leaves(condition[1], (*place, 1))
    if condition[0] in ("and", "or"):
        return leaves(condition[1], (*place, 1)) + leaves(condition[2], (*place, 2))
    return [(place, condition)]


def main_parts(question):
    found = [] if question[1] is None else leaves(question[1], (1,))
    return dict(found + [((2, at), term) for at, term in enumerate(question[2])])


def goal_places(question):
    return [()] + [place for place, part in main_parts(question).items() if may_fail(part)]


def goal_number(goals, result):
    """None for results of no goal."""
    if result[0] != "fails":
        return 0 if result[0] == "match" else None
    return next((at for at, goal in enumerate(goals) if at and result[2][: len(goal)] == goal), None)


def outside(part):
    """The columns outside of inner questions."""
    if part[0] == "column":
        return [part[1:]]
    terms = {"plus": part[1:2], "is": part[1:2], "less": part[1:], "most": part[1:], "same": part[1:]}
    return [column for term in terms.get(part[0], ()) for column in outside(term)]


def words_in(thing):
    if not isinstance(thing, tuple):
        return set()
    here = {thing[1]} if len(thing) == 2 and thing[0] == "value" and isinstance(thing[1], str) else set()
    return here.union(*[words_in(part) for part in thing])


class Stop(Exception):
    def __init__(self, word, place):
        super().__init__(word, place)
        self.word, self.place = word, place


class Reading:
    """Evaluates for values of unknowns; the log has all tests that were met, and their answers.

    A value is a pair of itself and of what it is: a column and what is added, or nothing else than itself.
    """

    def __init__(self, values, starts, counts, known):
        self.values, self.starts, self.counts, self.known = values, starts, counts, known
        self.log = []

    def ask(self, what, answer):
        self.log.append((what, answer))
        return answer

    def term(self, term, place, starts):
        if term[0] == "column":
            unknown = (*starts[term[1]], term[2])
            return self.values[unknown], (unknown, 0)
        if term[0] == "value":
            return term[1], ("value", term[1])
        if term[0] in ("first", "only"):
            return self.inner_term(term, place, starts)
        value, (what, more) = self.term(term[1], (*place, 1), starts)
        if not self.ask(("number", place), kind(value) == "number"):
            raise Stop("kind", place)
        if not self.ask(("range", place), abs(value + term[2]) <= R):
            raise Stop("range", place)
        return value + term[2], (what, more + term[2])

    def further(self, refs, starts):
        for numbers in product(*[range(self.counts[table]) for _, table in refs]):
            yield {**starts, **{alias: (table, k) for (alias, table), k in zip(refs, numbers)}}

    def inner_term(self, term, place, starts):
        found = None
        for further in self.further(term[1][0], starts):
            if self.condition(term[1][1], (*place, 1, 1), further):
                if found is not None:
                    raise Stop("several", place)
                found = self.term(term[2], (*place, 2), further)
                if term[0] == "first":
                    break
        return (None, ("value", None)) if found is None else found

    def condition(self, condition, place, starts):
        word = condition[0]
        if word == "not":
            return not self.condition(condition[1], (*place, 1), starts)
        if word in ("and", "or"):
            first = self.condition(condition[1], (*place, 1), starts)
            return first if first == (word == "or") else self.condition(condition[2], (*place, 2), starts)
        if self.known is not None and has_inner(condition):
            return self.hidden(place)
        if word == "exists":
            further = self.further(condition[1][0], starts)
            return any(self.condition(condition[1][1], (*place, 1, 1), more) for more in further)
        if word == "is":
            value, _ = self.term(condition[1], (*place, 1), starts)
            return self.ask(("is", place), kind(value) == condition[2])
        return self.compared(condition, *self.sides(condition, place, starts), place)

    def sides(self, leaf, place, starts):
        sides = [self.term(leaf[1], (*place, 1), starts), self.term(leaf[2], (*place, 2), starts)]
        for at, (value, _) in enumerate(sides):
            if leaf[0] == "same" and self.ask(("nothing", at, place), value is None):
                raise Stop("nothing", place)
            if leaf[0] != "same" and not self.ask(("number", at, place), kind(value) == "number"):
                raise Stop("kind", place)
        return sides

    def compared(self, leaf, one, other, place):
        if leaf[0] == "same":
            if one[1] == other[1]:
                return True
            numbers = [self.ask(("which", k, place), kind(side[0]) == "number") for k, side in enumerate((one, other))]
            return numbers[0] == numbers[1] and self.ask(("equal", place), one[0] == other[0])
        return self.ask(("less", place), one[0] < other[0] or leaf[0] == "most" and one[0] == other[0])

    def hidden(self, place):
        if place not in self.known:
            self.ask(("unknown", place), None)
            raise Stop("unknown", place)
        if self.known[place] == "fails":
            raise Stop("fails", place)
        return self.known[place] == "true"

    def result(self, question, starts):
        try:
            if question[1] is not None and not self.condition(question[1], (1,), starts):
                return ("none",)
            values = []
            for at, term in enumerate(question[2]):
                is_hidden = self.known is not None and has_inner(term)
                values.append(self.hidden((2, at)) if is_hidden else self.term(term, (2, at), starts))
            return ("match", tuple(values))
        except Stop as stop:
            return ("fails", stop.word, stop.place)

    def passes(self, part, place, starts):
        """Whether a main part does not fail, evaluated by itself."""
        try:
            if part[0] in ("less", "most", "same"):
                self.sides(part, place, starts)
            elif part[0] == "is":
                self.term(part[1], (*place, 1), starts)
            else:
                self.term(part, place, starts)
            return True
        except Stop:
            return False


class Every:
    """All values of the unknowns of a frame, and trees for them."""

    def __init__(self, domains):
        self.unknowns = list(domains)
        self.all = [dict(zip(domains, values)) for values in product(*domains.values())]

    def hidden_parts(self):
        return {}

    def right(self, tree):
        return self.is_right(tree, self.all, {})

    def is_unknown(self, thing):
        exact = isinstance(thing, tuple) and all(type(part) in (str, int) for part in thing)
        return exact and thing in self.unknowns

    def are(self, values, unknowns, what):
        known = all(self.is_unknown(unknown) for unknown in unknowns)
        return known and all(kind(each[unknown]) == what for each in values for unknown in unknowns)

    def split(self, node, values):
        """The values behind a node; None if it does not fit."""
        word, a, b = node[0], node[1], node[2]
        if word == "kind" and len(node) == 5 and self.is_unknown(a):
            return [[each for each in values if kind(each[a]) == what] for what in KINDS]
        test = None
        if word == "most" and len(node) == 6 and type(node[3]) is int and (a, b) != ((), ()):
            if self.are(values, [side for side in (a, b) if side != ()], "number"):
                test = [({**each, (): 0}[a] - {**each, (): 0}[b] <= node[3]) for each in values]
        if word == "same" and len(node) == 5 and self.are(values, (a, b), "word"):
            test = [each[a] == each[b] for each in values]
        if word == "word" and len(node) == 5 and self.are(values, (a,), "word") and is_word(b):
            test = [each[a] == b for each in values]
        if test is None:
            return None
        return [[each for each, holds in zip(values, test) if holds == answer] for answer in (True, False)]

    def is_right(self, tree, values, known):
        if not isinstance(tree, tuple) or tree[:1] == ():
            return False
        if tree == ("end",):
            return values == [] or self.ends(values, known)
        if len(tree) < 5 or not isinstance(tree[0], str):
            return False
        if tree[0] == "leaf":
            return self.is_right_leaf(tree, values, known)
        parts = self.split(tree, values)
        if parts is None:
            return False
        return all([self.is_right(below, part, known) for below, part in zip(tree[-len(parts) :], parts)])

    def is_right_leaf(self, tree, values, known):
        _, place, *behind = tree
        if len(behind) != 3 or not isinstance(place, tuple) or not all(type(step) is int for step in place):
            return False
        if place not in self.hidden_parts() or place in known:
            return False
        for outcome, below in zip(OUTCOMES, behind):
            if outcome == "false" and place[0] == 2:
                if not isinstance(below, tuple) or below != ("end",):
                    return False
            elif not self.is_right(below, values, {**known, place: outcome}):
                return False
        return True


def is_word(thing):
    return isinstance(thing, str) and 1 <= len(thing) <= 8 and all("a" <= letter <= "z" for letter in thing)


def domain(kinds, table, column, facts, words, numbers):
    """All values of a column; numbers are those that stand for all, or None if the facts leave few."""
    left = [what for what in kinds if ("no", table, column, what) not in facts]
    spans = [(low, high) for low, high in [fact[3:] for fact in facts if fact[:3] == ("within", table, column)]]
    low, high = max([-R] + [span[0] for span in spans]), min([R] + [span[1] for span in spans])
    inside = range(low, high + 1) if numbers is None else [number for number in numbers if low <= number <= high]
    found = [None] if "nothing" in left else []
    return found + (list(inside) if "number" in left else []) + (list(words) if "word" in left else [])


class EveryPaper(Every):
    """Papers; for numbers and for facts see domain."""

    def __init__(self, schema, question, goal, facts, about=None, words=(), numbers=None):
        self.question, self.goal, self.about = question, goal, about
        self.parts, self.goals = main_parts(question), goal_places(question)
        tables = dict(question[0])
        columns = {table[0]: dict(table[1]) for table in schema}
        unknowns = sorted({column for part in self.parts.values() for column in outside(part)})
        if about is not None:
            unknowns = sorted({*unknowns, about[:2]})
        told = sorted(words_in(question).union(words))
        told += FRESH[: len(unknowns)]
        domains = {}
        for alias, name in unknowns:
            kinds = columns[tables[alias]][name]
            domains[(alias, name)] = domain(kinds, tables[alias], name, facts, told, numbers)
        super().__init__(domains)
        self.starts = {alias: (alias,) for alias in tables}
        self.hidden_outcomes = {place: part for place, part in self.parts.items() if has_inner(part)}

    def hidden_parts(self):
        return self.hidden_outcomes

    def reading(self, values, known):
        return Reading(values, self.starts, {}, known)

    def is_told(self, values):
        """Whether about tells this value."""
        if self.about is None:
            return False
        value = values[self.about[:2]]
        return kind(value) == "number" and self.about[2] <= value <= self.about[3]

    def is_hit(self):
        """Whether a combination may have the goal, with a value that about does not tell."""
        lists = [OUTCOMES if place[0] == 1 else ("true", "fails") for place in self.hidden_outcomes]
        for known in product(*lists):
            for values in self.all:
                reading = self.reading(values, dict(zip(self.hidden_outcomes, known)))
                if not self.is_told(values):
                    if goal_number(self.goals, reading.result(self.question, self.starts)) == self.goal:
                        return True
        return False

    def ends(self, values, known):
        if all(self.is_told(each) for each in values):
            return True
        place = self.goals[self.goal]
        if self.goal and place not in self.hidden_outcomes:
            readings = [self.reading(each, known) for each in values]
            if all(reading.passes(self.parts[place], place, self.starts) for reading in readings):
                return True
        logs = set()
        for each in values:
            reading = self.reading(each, known)
            result = reading.result(self.question, self.starts)
            logs.add((tuple(reading.log), result[0], result[1:] if result[0] == "fails" else None))
        if len(logs) > 1 or result[:2] == ("fails", "unknown"):
            return False
        return goal_number(self.goals, result) != self.goal


class EveryShape(Every):
    """The trees of a ledger for one shape; a claim says whether it holds for a reading, which logs what it asks."""

    def __init__(self, schema, refs, shape, facts, words, numbers, claim):
        self.claim = claim
        self.counts = dict(shape)
        domains = {}
        columns = {table[0]: table[1] for table in schema}
        size = sum(count * len(columns[table]) for table, count in shape)
        told = sorted(words) + list(FRESH[:size])
        for table, count in shape:
            for number in range(count):
                for name, kinds in columns[table]:
                    domains[(table, number, name)] = domain(kinds, table, name, facts, told, numbers)
        super().__init__(domains)
        self.keys = [(table, key) for table, _, keys, _ in schema if table in self.counts for key in keys]
        numbers_of = [range(self.counts[table]) for _, table in refs]
        self.combinations = [
            {alias: (table, k) for (alias, table), k in zip(refs, way)} for way in product(*numbers_of)
        ]

    def doubled(self, values):
        """The pairs of rows that are equal in a key."""
        found = set()
        for table, key in self.keys:
            for at in range(self.counts[table]):
                found |= {
                    (table, key, at, to) for to in range(at) if values[(table, at, key)] == values[(table, to, key)]
                }
        return found

    def ends(self, values, known):
        pairs = self.doubled(values[0])
        for each in values:
            pairs &= self.doubled(each)
        if pairs:
            return True
        logs, answers = set(), set()
        for each in values:
            reading = Reading(each, {}, self.counts, None)
            answers.add(self.claim(reading, self.combinations))
            logs.add(tuple(reading.log))
        return len(logs) == 1 and answers == {True}

    def is_so(self):
        """Whether the claim is so for all values with which there is a store."""
        stores = [each for each in self.all if not self.doubled(each)]
        return all(self.claim(Reading(each, {}, self.counts, None), self.combinations) for each in stores)


def never(question, goal):
    goals = goal_places(question)

    def claim(reading, combinations):
        results = [reading.result(question, starts) for starts in combinations]
        return goal not in [goal_number(goals, result) for result in results]

    return claim


def alike(one, other):
    def claim(reading, combinations):
        if one[4] == 0:
            return True
        for starts in combinations:
            first, second = reading.result(one, starts), reading.result(other, starts)
            if first[0] != second[0] or first[0] == "fails" and first[1] != second[1]:
                return False
            if first[0] == "fails":
                return True
            if first[0] == "match":
                if len(first[1]) != len(second[1]):
                    return False
                for a, b in zip(first[1], second[1]):
                    if a[1] != b[1] and not reading.ask("told", a[0] == b[0]):
                        return False
        return True

    return claim


def true_plan(question, plan):
    goals = goal_places(question)

    def taken(reading, course, starts):
        taken = []
        for alias, path in zip(course[1], course[2]):
            if path[0] == "between":
                value = reading.values[(*starts[alias], path[1])]
                taken.append(reading.ask("taken", kind(value) == "number" and path[2] <= value <= path[3]))
            else:
                taken.append(path[0] != "first" or starts[alias][1] == 0)
        return all(taken)

    def claim(reading, combinations):
        if question[4] == 0:
            return True
        for starts in combinations:
            result = reading.result(question, starts)
            goal = goal_number(goals, result)
            if goal is not None and not any(taken(reading, course, starts) for course in plan[0] if goal in course[0]):
                return False
            if result[0] == "fails":
                return True
        return True

    return claim
