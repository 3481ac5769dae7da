"""Trees, plans and the like with one place otherwise."""

NODES = ("end", "kind", "most", "same", "word", "leaf")
OTHERS = (("end",), "kind", "most", "word", "same", "leaf", (), 0, 1, -1, True, False, None, "cup", "a", "A", [], {}, "")


def places(thing, at=()):
    """The places of all parts of tuples within one another."""
    found = [at]
    if isinstance(thing, tuple):
        for step, part in enumerate(thing):
            found += places(part, (*at, step))
    return found


def part_of(thing, place):
    for step in place:
        thing = thing[step]
    return thing


def with_part(thing, place, part):
    if place == ():
        return part
    at = place[0]
    return thing[:at] + (with_part(thing[at], place[1:], part),) + thing[at + 1 :]


def otherwise(rng, part, pool):
    """Something else than a part, often much like it."""
    chance = rng.random()
    if type(part) is int and part in (0, 1) and chance < 0.2:
        return bool(part)
    if isinstance(part, int) and chance < 0.6:
        return part + rng.choice((1, -1, 2))
    if isinstance(part, tuple) and part and chance < 0.2:
        at = rng.randrange(len(part))
        return part[:at] + part[at + 1 :]
    if isinstance(part, tuple) and part and chance < 0.3:
        at = rng.randrange(len(part))
        return part[:at] + part[at : at + 1] * 2 + part[at + 1 :]
    if isinstance(part, tuple) and len(part) > 1 and chance < 0.5:
        at, to = sorted(rng.sample(range(len(part)), 2))
        return part[:at] + (part[to],) + part[at + 1 : to] + (part[at],) + part[to + 1 :]
    if isinstance(part, tuple) and chance < 0.6:
        return list(part)
    return rng.choice([*OTHERS, *pool])


def grown(rng, tree, unknowns, hidden=()):
    """A node more around a tree."""
    one, other = rng.choice(unknowns), rng.choice([*unknowns, ()])
    made = [
        ("kind", one, tree, tree, tree),
        ("most", one, other, rng.randint(-2, 3), tree, tree),
        ("most", (), one, rng.randint(-2, 3), tree, tree),
        ("same", one, other, tree, tree),
        ("word", one, rng.choice(("a", "b", "cup")), tree, tree),
    ]
    for place in hidden:
        made.append(("leaf", place, tree, ("end",) if place[0] == 2 else tree, tree))
    return rng.choice(made)


def spoiled(rng, thing, unknowns=(), hidden=(), pool=()):
    """A thing, often a tree, that is otherwise at one place."""
    place = rng.choice(places(thing))
    part = part_of(thing, place)
    if unknowns and isinstance(part, tuple) and part[:1] and part[0] in NODES and rng.random() < 0.35:
        return with_part(thing, place, grown(rng, part, unknowns, hidden))
    return with_part(thing, place, otherwise(rng, part, [*pool, *unknowns, *hidden]))
