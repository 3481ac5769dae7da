"""Terms and conditions as trees: their parts, and where these stand."""

# For each word, the places of the terms and conditions right below; conditions of inner questions are among them.
STEPS = {
    "column": (),
    "value": (),
    "plus": ((1,),),
    "only": ((1, 1), (2,)),
    "first": ((1, 1), (2,)),
    "less": ((1,), (2,)),
    "most": ((1,), (2,)),
    "same": ((1,), (2,)),
    "is": ((1,),),
    "exists": ((1, 1),),
    "not": ((1,),),
    "and": ((1,), (2,)),
    "or": ((1,), (2,)),
}
# What has an inner question.
INNER = ("only", "first", "exists")
# What is made of two conditions.
BOTH = ("and", "or")
# What can fail by itself.
FAILING = ("less", "most", "same", "plus", "only")


def at_place(part, place):
    """What stands at a place of a part."""
    for step in place:
        part = part[step]
    return part


def replaced(part, place, new):
    """A part in which something new stands at a place."""
    if place == ():
        return new
    at = place[0]
    return part[:at] + (replaced(part[at], place[1:], new),) + part[at + 1 :]


def parts_of(part):
    """A term or a condition and all terms and conditions in it, in the order of the text."""
    found = [part]
    for step in STEPS[part[0]]:
        found.extend(parts_of(at_place(part, step)))
    return found


def may_fail(part):
    """Whether a term or a condition can fail, by its form."""
    return any([below[0] in FAILING for below in parts_of(part)])


def leaves_of(condition, place):
    """The places of the leaves of a condition at a place, ascending; those of inner questions are not among them."""
    if condition[0] == "not":
        return leaves_of(condition[1], place + (1,))
    if condition[0] in BOTH:
        return leaves_of(condition[1], place + (1,)) + leaves_of(condition[2], place + (2,))
    return [place]


def inner_refs(part):
    """The refs of all inner questions in a term or a condition, in the order of the text."""
    return [ref for below in parts_of(part) if below[0] in INNER for ref in below[1][0]]


def outer_columns(part):
    """The columns in a term or a condition that stand outside of inner questions."""
    if part[0] == "column":
        return [part]
    if part[0] in INNER:
        return []
    return [column for step in STEPS[part[0]] for column in outer_columns(at_place(part, step))]
