"""Loops within one another."""


def ways(lists):
    """All tuples of one item of each list, the items of the last list being exchanged first."""
    many = 1
    for items in lists:
        many *= len(items)
    for way in range(many):
        rest = way
        picked = []
        for items in reversed(lists):
            picked.append(items[rest % len(items)])
            rest //= len(items)
        yield tuple(reversed(picked))
