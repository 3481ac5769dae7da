"""Guarded questions, which never fail: tests of values stand in front of each operation that could."""

from failsalike.parts import BOTH, INNER, STEPS, at_place, replaced
from failsalike.questions import aliases_of
from failsalike.values import RANGE, kind_of

LETTERS = "abcdefghijklmnopqrstuvwxyz"
# A condition that never holds, and cannot fail.
NEVER = ("is", ("value", None), "number")


class Aliases:
    """Aliases that a question does not have."""

    def __init__(self, taken):
        self.taken = {alias: True for alias in taken}
        self.many = 0

    def fresh(self):
        """An alias that was not there before."""
        alias = self.following()
        while alias in self.taken:
            alias = self.following()
        return alias

    def following(self):
        """The next one of all names that begin with a g."""
        rest = self.many
        self.many += 1
        letters = LETTERS[rest % 26]
        while rest >= 26:
            rest = rest // 26 - 1
            letters = LETTERS[rest % 26] + letters
        return "g" + letters


def guarded(question):
    """A question that never fails, and tells what the given one tells where that one does not fail."""
    refs, where, told, order, limit = question
    aliases = Aliases(aliases_of(question))
    condition = None if where is None else safe_condition(aliases, where)
    terms = tuple([safe_term(aliases, term) for term in told])
    tests = [test for term in terms for test in sum_tests(aliases, term)]
    return (refs, both(condition, all_of(tests)), terms, order, limit)


def both(one, other):
    """Two conditions one behind the other, each of them perhaps None."""
    if one is None:
        return other
    if other is None:
        return one
    return ("and", one, other)


def all_of(conditions):
    """One condition that holds if all of these do; None if there are none."""
    if len(conditions) == 0:
        return None
    if len(conditions) == 1:
        return conditions[0]
    # Halves keep the condition from growing deep.
    half = len(conditions) // 2
    return both(all_of(conditions[:half]), all_of(conditions[half:]))


def safe_condition(aliases, condition):
    """A condition that never fails, and is what the given one is where that one does not fail."""
    word = condition[0]
    if word == "not":
        return ("not", safe_condition(aliases, condition[1]))
    if word in BOTH:
        return (word, safe_condition(aliases, condition[1]), safe_condition(aliases, condition[2]))
    if word == "exists":
        refs, within = condition[1]
        return ("exists", (refs, safe_condition(aliases, within)))
    one = safe_term(aliases, condition[1])
    if word == "is":
        return both(all_of(sum_tests(aliases, one)), ("is", one, condition[2]))
    other = safe_term(aliases, condition[2])
    tests = [test for term in (one, other) for test in side_tests(aliases, word, term)]
    return both(all_of(tests), (word, one, other))


def safe_term(aliases, term):
    """A term that never fails but for its sums, and has the value of the given one where that one does not fail."""
    if term[0] == "plus":
        return ("plus", safe_term(aliases, term[1]), term[2])
    if term[0] not in INNER:
        return term
    refs, condition = term[1]
    within = both(safe_condition(aliases, condition), all_of(sum_tests(aliases, term[2])))
    return ("first", (refs, within), term[2])


def side_tests(aliases, word, term):
    """Tests that a side of a comparison is what the comparison takes."""
    if term[0] == "plus":
        return sum_tests(aliases, term)
    if word == "same":
        return nothing_tests(aliases, term)
    return number_tests(aliases, term, -RANGE, RANGE)


def sum_tests(aliases, term):
    """Tests that no sum in a term fails."""
    if term[0] != "plus":
        return []
    low, high, total = -RANGE, RANGE, 0
    for step in steps_up(term):
        total += step
        low = max(low, -RANGE - total)
        high = min(high, RANGE - total)
    return number_tests(aliases, base_of(term), low, high)


def steps_up(term):
    """What is added in a sum of sums, the innermost first."""
    if term[0] != "plus":
        return []
    return steps_up(term[1]) + [term[2]]


def base_of(term):
    """What is within all sums."""
    while term[0] == "plus":
        term = term[1]
    return term


def nothing_tests(aliases, term):
    """Tests that a term that is no sum is not nothing."""
    if term[0] == "value":
        return [NEVER] if term[1] is None else []
    return [("not", ("is", copy_of(aliases, term), "nothing"))]


def number_tests(aliases, term, low, high):
    """Tests that a term that is no sum is a number from low to high."""
    if low > high:
        return [NEVER]
    if term[0] == "value":
        return [] if kind_of(term[1]) == "number" and low <= term[1] <= high else [NEVER]
    tests = [("is", copy_of(aliases, term), "number")]
    if low > -RANGE:
        tests.append(("most", ("value", low), copy_of(aliases, term)))
    if high < RANGE:
        tests.append(("most", copy_of(aliases, term), ("value", high)))
    return tests


def copy_of(aliases, term):
    """The same term, with other aliases in its inner question."""
    if term[0] not in INNER:
        return term
    refs, condition = term[1]
    others = {alias: aliases.fresh() for alias, _ in refs}
    renamed = tuple([(others[alias], table) for alias, table in refs])
    return (term[0], (renamed, with_aliases(condition, others)), with_aliases(term[2], others))


def with_aliases(part, others):
    """A term or a condition whose columns have other aliases."""
    if part[0] == "column":
        return ("column", others.get(part[1], part[1]), part[2])
    renamed = part
    for step in STEPS[part[0]]:
        renamed = replaced(renamed, step, with_aliases(at_place(part, step), others))
    return renamed
