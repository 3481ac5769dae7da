"""Integers and tuples exactly: Python's bools are ints and equal some, but no bool is an integer here."""


def is_integer(thing):
    """Whether this is an integer."""
    return isinstance(thing, int) and not isinstance(thing, bool)


def is_place(thing):
    """Whether this is a tuple of integers."""
    return isinstance(thing, tuple) and all([is_integer(step) for step in thing])


def is_exactly(thing, made):
    """Whether this equals something that is made of tuples, integers, strings and None."""
    if isinstance(made, tuple):
        if not isinstance(thing, tuple) or len(thing) != len(made):
            return False
        return all([is_exactly(part, like) for part, like in zip(thing, made)])
    if isinstance(made, int):
        return is_integer(thing) and thing == made
    return thing == made


def is_ascending(thing):
    """Whether what stands in this tuple ascends, each part once."""
    return all([thing[at] < thing[at + 1] for at in range(len(thing) - 1)])
