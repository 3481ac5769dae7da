"""Things of all kinds that the tests pass, made anew for each call."""

R = 10**12

# In their order: each one comes before all that stand behind it.
VALUES = (None, -R, -R + 1, -3, -1, 0, 1, 2, 9, 10, R - 1, R, "a", "aa", "ab", "b", "cup", "z", "zzzzzzzz")


def nested(depth):
    """Lists in lists."""
    thing = []
    for _ in range(depth):
        thing = [thing]
    return thing


def no_words():
    """Things that are no names, of all kinds, without None and the integers of the range."""
    strings = ["", " ", "\n", "A", "aB", "a b", " a", "a ", "a\n", "\na", "a1", "1", "-", "a-b", "a_b", "_", "`", "{"]
    strings += ["abcdefghi", "a" * 2000, "~" * 2000, "\u00e4", "a\u00e9", "\u0430", "\u00df", "\uff41", "a\u0301"]
    others = [True, False, (), [], {}, ("a",), ["a"], {"a": 1}, (1,), [None], (None,), {1: "a"}, nested(19)]
    return strings + others + [list(range(2000)), ("no", "t", "x", "word"), (((), 3), [{"a": [()]}])]


def no_numbers():
    """Things that are no numbers and no names, among them integers that are too great."""
    return no_words() + [R + 1, -R - 1, 10**39, -(10**39), 2**64]


def anything():
    """Values, and things that are none."""
    return list(VALUES) + no_numbers()
