"""Runs: questions answered by plans, step by step."""

from failsalike.errors import Failed, NoCourse, NoPlan, Outdated
from failsalike.facts import fact_holds
from failsalike.goals import goal_among, goals_of
from failsalike.loopings import Track, advanced, all_loops, least_open, taken
from failsalike.plans import plan_holds
from failsalike.written import ranks, result_of


class Run:
    """A run of a question by a plan, on the rows that a store has now."""

    def __init__(self, store, question, plan, *, trusted=False):
        if not trusted and not plan_holds(store.schema, question, plan):
            raise NoPlan()
        for fact in plan[2]:
            if not fact_holds(store, fact):
                raise Outdated(fact)
        self._store = store.copy()
        self._question = question
        self._places = goals_of(question)
        self._tracks = [Track(self._store, question, course) for course in plan[0]]
        self._fetched = {alias: 0 for alias, _ in question[0]}
        # Triples of the combinations of the found matches, their values, and what they are sorted by; ascending.
        self._matches = []
        # The result of the least combination that was found as a failure.
        self._failure = None
        self._failed_at = None

    def step(self, course=0, worker=0):
        """Makes a step: the alias and the number of the row that was fetched; None if no step is made."""
        if not 0 <= course < len(self._tracks):
            raise NoCourse(course)
        if self._question[4] == 0:
            return None
        track = self._tracks[course]
        loop, number = taken(track, worker, self.bound)
        if loop is None:
            return None
        alias = track.order[loop.depth]
        self._fetched[alias] += 1
        combination = advanced(track, worker, loop, number)
        if combination is not None:
            self._find(track, combination)
        return (alias, number)

    @property
    def steps(self):
        """How many steps were made."""
        return sum(list(self._fetched.values()))

    def reads(self, alias):
        """How many rows of a ref were fetched."""
        return self._fetched[alias]

    @property
    def bound(self):
        """The least combination behind which nothing is told; None if there is none yet."""
        return border_of(self._question, self._matches, self._failed_at)

    @property
    def frontier(self):
        """The least open combination; None if nothing is open."""
        return frontier_of(self._question, self._tracks, self._matches, self._failed_at)

    @property
    def ended(self):
        """Whether nothing is open."""
        return frontier_of(self._question, self._tracks, self._matches, self._failed_at) is None

    @property
    def told(self):
        """The told rows."""
        frontier = frontier_of(self._question, self._tracks, self._matches, self._failed_at)
        return told_rows(self._question, self._matches, self._failed_at, frontier)

    def outcome(self):
        """Makes steps until the run has ended: the told rows, and the failure or None."""
        while not self.ended:
            self._step_all()
        return (self.told, self._failure_told())

    def stream(self):
        """The told rows, one by one; steps are made until they are told."""
        at = 0
        is_over = False
        while not is_over:
            while not self.ended and self._many_told() <= at:
                self._step_all()
            is_over = self.ended
            rows = self._told_from(at)
            yield from rows
            at += len(rows)
        failure = self._failure_told()
        if failure is not None:
            raise Failed(failure[0], failure[1], failure[2])

    def _failure_told(self):
        """The found failure that is the bound, or None; the limit may be reached before one."""
        return self._failure if self._failed_at == self.bound else None

    def _many_told(self):
        """How many rows are told."""
        if self._question[3] != () and not self.ended:
            return 0
        return many_told(self._question, self._matches, self._failed_at, self.frontier)

    def _told_from(self, at):
        """The told rows but the first ones."""
        if self._question[3] != ():
            return self.told[at:]
        # The run may have told many rows: only those that are new are looked at.
        rows = self._matches[at : self._many_told()]
        return tuple([(numbers, values) for numbers, values, _ in rows])

    def _step_all(self):
        """Makes a step in each course with each of its workers."""
        for course, track in enumerate(self._tracks):
            for worker in workers_of(track):
                self.step(course, worker)

    def _find(self, track, combination):
        """Takes the result of a combination down, if its goal is one of a course."""
        result = result_of(self._store, self._question, combination)
        if goal_among(self._places, result) not in track.goals:
            return
        if result[0] == "fails":
            if self._failed_at is None or combination < self._failed_at:
                self._failed_at = combination
                self._failure = result[1:]
            return
        at = place_among(self._matches, combination)
        if at == len(self._matches) or self._matches[at][0] != combination:
            rank = ranks(self._store, self._question, combination)
            self._matches.insert(at, (combination, result[1], rank))


def workers_of(track):
    """The workers of a course that have loops, and one that may take the next row of the outermost one."""
    return sorted(list({worker: True for worker in [0, *list(track.loops)]}))


def place_among(matches, combination):
    """How many matches have a combination before this one."""
    low, high = 0, len(matches)
    while low < high:
        middle = (low + high) // 2
        if matches[middle][0] < combination:
            low = middle + 1
        else:
            high = middle
    return low


def border_of(question, matches, failed_at):
    """The bound of a run with these found matches and this least found failure."""
    limit = question[4]
    if question[3] != () or limit is None or limit == 0 or len(matches) < limit:
        return failed_at
    last = matches[limit - 1][0]
    return last if failed_at is None else min(last, failed_at)


def frontier_of(question, tracks, matches, failed_at):
    """The least open combination of all courses; None if nothing is open."""
    if question[4] == 0:
        return None
    border = border_of(question, matches, failed_at)
    found = [least_open(loop, border) for track in tracks for loop in all_loops(track)]
    return min([least for least in found if least is not None], default=None)


def told_rows(question, matches, failed_at, frontier):
    """The told rows of a run with this frontier."""
    if question[3] == ():
        many = many_told(question, matches, failed_at, frontier)
        return tuple([(numbers, values) for numbers, values, _ in matches[:many]])
    if frontier is not None or failed_at is not None:
        return ()
    # Equal ones stay as they were: by their combinations, all of which are different.
    ranked = sorted([(rank, numbers, values) for numbers, values, rank in matches])
    return tuple([(numbers, values) for _, numbers, values in ranked[: question[4]]])


def many_told(question, matches, failed_at, frontier):
    """How many found matches nothing keeps back, the least ones, and the limit lets be told."""
    many = len(matches) if question[4] is None else min(len(matches), question[4])
    if failed_at is not None:
        many = min(many, place_among(matches, failed_at))
    if frontier is not None:
        at = place_among(matches, frontier)
        # What is open at the frontier may be found again: it is told already.
        is_found = at < len(matches) and matches[at][0] == frontier
        many = min(many, at + 1 if is_found else at)
    return many
