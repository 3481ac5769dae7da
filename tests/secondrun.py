"""Runs written down a second time and in another way: with all open combinations, to compare the program with."""

from itertools import product

from failsalike.goals import possible, tested
from tests.everyvalue import goal_number, goal_places
from tests.oracle import Oracle
from tests.planning import path_rows


class SecondRun:
    """Keeps the rows that are still to be fetched as lists, and what was found as a dict."""

    def __init__(self, store, question, plan):
        self.store, self.question = store.copy(), question
        self.courses = plan[0]
        self.refs, _, _, self.order, self.limit = question
        self.aliases = [alias for alias, _ in self.refs]
        self.tables = dict(self.refs)
        self.numbers = {alias: [number for number, _ in store.rows(table)] for alias, table in self.refs}
        self.found = {}
        self.steps = 0
        self.reads = dict.fromkeys(self.aliases, 0)
        self.places = goal_places(question)
        # For each course a list of loops, from outside to inside: the worker, what is bound, and the rows.
        self.loops = [[(None, (), self.rows(course, ()))] for course in self.courses]

    def rows(self, course, bound):
        """The rows of the loop behind bound rows."""
        goals = possible(self.question, tested(self.store, self.question, bound))
        return path_rows(self.store, self.question, course, bound) if set(goals) & set(course[0]) else []

    def combinations(self, course, bound):
        """All combinations with these bound rows."""
        rows = {alias: [number] for alias, _, number in bound}
        return product(*[rows.get(alias, self.numbers[alias]) for alias in self.aliases])

    @property
    def bound(self):
        fails = [combination for combination, result in self.found.items() if result[0] == "fails"]
        matches = sorted(combination for combination, result in self.found.items() if result[0] == "match")
        if not self.order and self.limit:
            fails += matches[self.limit - 1 : self.limit]
        return min(fails, default=None)

    def is_passed(self, course, bound):
        """Whether the last one of these bound rows is passed over."""
        least = min(self.combinations(course, bound), default=None)
        return self.limit == 0 or least is None or self.bound is not None and least > self.bound

    def triples(self, course, bound, number):
        alias = course[1][len(bound)]
        return (*bound, (alias, self.tables[alias], number))

    @property
    def open(self):
        found = set()
        for course, loops in zip(self.courses, self.loops):
            for _, bound, rows in loops:
                for number in rows:
                    more = self.triples(course, bound, number)
                    if not self.is_passed(course, more):
                        found |= set(self.combinations(course, more))
        return found

    @property
    def frontier(self):
        return min(self.open, default=None)

    def step(self, at, worker):
        course, loops = self.courses[at], self.loops[at]
        mine = [loop for loop in loops if loop[0] == worker]
        while True:
            loop = mine[-1] if mine else loops[0]
            while loop[2]:
                more = self.triples(course, loop[1], loop[2].pop(0))
                if not self.is_passed(course, more):
                    self.fetch(at, worker, more)
                    return more[-1][0], more[-1][2]
            if not mine:
                return None
            loops.remove(mine.pop())

    def fetch(self, at, worker, bound):
        course = self.courses[at]
        self.steps += 1
        self.reads[bound[-1][0]] += 1
        if len(bound) < len(self.aliases):
            goals = possible(self.question, tested(self.store, self.question, bound))
            if set(goals) & set(course[0]):
                self.loops[at].append((worker, bound, path_rows(self.store, self.question, course, bound)))
            return
        [combination] = self.combinations(course, bound)
        result = Oracle(self.store).result(self.question, combination)
        if goal_number(self.places, result) in course[0]:
            self.found[combination] = result

    @property
    def told(self):
        """The told rows by the words of the document."""
        ends = self.open
        fails = [combination for combination, result in self.found.items() if result[0] == "fails"]
        matches = sorted((way, result[1]) for way, result in self.found.items() if result[0] == "match")
        if self.order:
            if ends or fails:
                return ()
            oracle = Oracle(self.store)
            for column in reversed(self.order):
                bound = [list(zip(self.aliases, self.tables.values(), way)) for way, _ in matches]
                values = [oracle.eval(triples, column, ())[1] for triples in bound]
                order = sorted(range(len(matches)), key=lambda at: oracle.rank(values[at]))
                matches = [matches[at] for at in order]
        else:
            matches = [
                (way, values)
                for way, values in matches
                if not any(other < way for other in ends) and not any(other < way for other in fails)
            ]
        return tuple(matches[: self.limit])
