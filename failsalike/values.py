"""Values: nothing, numbers and words, and their order."""

RANGE = 10**12
KINDS = ("nothing", "number", "word")


def is_name(thing):
    """Whether this is a string of one to eight letters a to z."""
    if not isinstance(thing, str) or not 1 <= len(thing) <= 8:
        return False
    return all(["a" <= letter <= "z" for letter in thing])


def is_number(thing):
    """Whether this is an integer in the range of values."""
    # Python's bools are ints, but no integers here.
    if not isinstance(thing, int) or isinstance(thing, bool):
        return False
    return -RANGE <= thing <= RANGE


def is_value(thing):
    """Whether this is nothing, a number or a word."""
    return thing is None or is_number(thing) or is_name(thing)


def kind_of(value):
    """The kind of a value, one of KINDS."""
    if value is None:
        return "nothing"
    if isinstance(value, str):
        return "word"
    return "number"


def rank_of(value):
    """What values are sorted by."""
    # The names of the kinds happen to ascend in the order of their values, and None is only compared with itself.
    return (kind_of(value), value)


def is_before(one, other):
    """Whether a value comes before another one."""
    return rank_of(one) < rank_of(other)
