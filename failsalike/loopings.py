"""The loops of the workers of a course, and which rows they have still to fetch."""

from failsalike.goals import goals_of, is_possible, outcome_at
from failsalike.paths import fetched_by
from failsalike.questions import main_parts, named


class Loop:
    """Rows that are still to be fetched for a ref, for rows that are bound to the refs before."""

    def __init__(self, depth, spot, base, rows, bound, known):
        # How many refs are bound before, and where the ref stands in the question.
        self.depth = depth
        self.spot = spot
        # The least combination of the rows that are bound; what it has for this ref is replaced by a row.
        self.base = base
        self.rest = rows
        self.at = 0
        self.lowest = least_from(rows)
        self.triples = bound
        self.known = known


def least_from(rows):
    """The least number of the rows from each place on, None behind the last one."""
    least = None
    found = [None]
    for number in reversed(rows):
        least = number if least is None else min(least, number)
        found.append(least)
    return list(reversed(found))


def least_of(loop, number):
    """The least combination of a row of a loop."""
    return loop.base[: loop.spot] + (number,) + loop.base[loop.spot + 1 :]


def least_open(loop, border):
    """The least open combination of a loop; None if nothing of it is open. No row behind the border is fetched."""
    number = loop.lowest[loop.at]
    if number is None:
        return None
    least = least_of(loop, number)
    return least if border is None or least <= border else None


def next_row(loop, border):
    """Takes the next row of a loop that is not passed over; None if there is none."""
    while loop.at < len(loop.rest):
        number = loop.rest[loop.at]
        loop.at += 1
        if border is None or least_of(loop, number) <= border:
            return number
    return None


class Track:
    """A course on its way."""

    def __init__(self, store, question, course):
        self.held = store
        self.question = question
        self.goals, self.order, self.paths = course
        aliases = [alias for alias, _ in question[0]]
        self.spots = [aliases.index(alias) for alias in self.order]
        self.tables = [question[0][spot][1] for spot in self.spots]
        self.ripe = ripe_parts(question, self.order)
        places = goals_of(question)
        self.places = [places[goal] for goal in self.goals]
        # By known outcomes: whether some goal is possible by them.
        self.judged = {}
        # By workers: their loops, but the outermost one, which all of them share.
        self.loops = {}
        firsts = [store.row_numbers(table)[:1] for _, table in question[0]]
        base = tuple([number for numbers in firsts for number in numbers])
        self.outermost = Loop(0, self.spots[0], base, (), (), known_at(self, (), (), 0))
        if len(base) == len(firsts) and is_still_possible(self, self.outermost.known):
            self.outermost = loop_behind(self, self.outermost.known, base, ())


def ripe_parts(question, order):
    """By the number of bound refs: the main parts that are complete then, and were not before."""
    found = [[] for _ in range(len(order) + 1)]
    for place in main_parts(question):
        depths = [order.index(alias) + 1 for alias in named(question, place)]
        found[max(depths, default=0)].append(place)
    return found


def known_at(track, known, bound, depth):
    """The known outcomes together with those of the main parts that are complete now."""
    more = [(place, outcome_at(track.held, track.question, bound, place)) for place in track.ripe[depth]]
    return tuple(sorted([*known, *more]))


def is_still_possible(track, known):
    """Whether some goal of the course is possible by known outcomes."""
    if known not in track.judged:
        track.judged[known] = any([is_possible(track.question, known, place) for place in track.places])
    return track.judged[known]


def loop_behind(track, known, base, bound):
    """The loop for the next ref behind bound rows."""
    depth = len(bound)
    rows = fetched_by(track.held, track.question, track.order[depth], track.paths[depth], bound)
    return Loop(depth, track.spots[depth], base, rows, bound, known)


def all_loops(track):
    """All loops of a course."""
    return [track.outermost] + [loop for loops in track.loops.values() for loop in loops]


def taken(track, worker, border):
    """The loop and the row that a worker takes next; None and None if there is no row."""
    loops = track.loops.get(worker, [])
    while loops != []:
        number = next_row(loops[-1], border)
        if number is not None:
            return (loops[-1], number)
        loops.pop()
    number = next_row(track.outermost, border)
    return (None, None) if number is None else (track.outermost, number)


def advanced(track, worker, loop, number):
    """Binds a row: the combination that it completes, or None, and then a loop for the next ref may begin."""
    depth = loop.depth + 1
    base = least_of(loop, number)
    bound = (*loop.triples, (track.order[loop.depth], track.tables[loop.depth], number))
    if depth == len(track.order):
        return base
    known = known_at(track, loop.known, bound, depth)
    if is_still_possible(track, known):
        loops = track.loops.setdefault(worker, [])
        loops.append(loop_behind(track, known, base, bound))
    return None
