"""Trees: nodes that ask for tests, the states behind them, and trees made of nodes."""

from failsalike.exact import is_integer
from failsalike.values import KINDS, is_name

END = ("end",)
# How long the heads of nodes are, and how many trees stand behind them.
HEADS = {"end": 1, "kind": 2, "most": 4, "same": 3, "word": 3, "leaf": 2}
BEHIND = {"end": 0, "kind": 3, "most": 2, "same": 2, "word": 2, "leaf": 3}
# The outcomes of a main part, as the trees of a leaf node ask for them.
ANSWERS = ("true", "false", "fails")


def has_node_form(thing, words):
    """Whether this is a tuple that begins with one of these words and is as long as its node."""
    if not isinstance(thing, tuple) or thing == () or not isinstance(thing[0], str) or thing[0] not in words:
        return False
    return len(thing) == HEADS[thing[0]] + BEHIND[thing[0]]


def head_of(node):
    """What a node asks for."""
    return node[: HEADS[node[0]]]


def behind(node):
    """The trees behind a node."""
    return node[HEADS[node[0]] :]


def fits(state, head):
    """Whether a head, but that of a leaf node, fits in a tree at a state."""
    word = head[0]
    if word == "end":
        return True
    if word == "kind":
        return is_unknown(state, head[1])
    if word == "most":
        return fits_most(state, head)
    if not is_unknown(state, head[1]):
        return False
    if word == "same":
        return is_unknown(state, head[2]) and are_of(state, head[1:], "word")
    return is_name(head[2]) and are_of(state, head[1:2], "word")


def fits_most(state, head):
    """Whether the head of a comparison of numbers fits."""
    sides = [side for side in head[1:3] if side != ()]
    if sides == [] or not all([is_unknown(state, side) for side in sides]) or not is_integer(head[3]):
        return False
    return are_of(state, sides, "number")


def is_unknown(state, thing):
    """Whether this is an unknown of the frame of a state."""
    if not isinstance(thing, tuple) or thing == ():
        return False
    # A bool equals the number of a row, but is none; what is neither a string nor an integer may be no key.
    return all([isinstance(part, str) or is_integer(part) for part in thing]) and thing in state.spots


def are_of(state, unknowns, kind):
    """Whether all solutions have values of one kind for some unknowns."""
    return state.is_void or all([state.kinds_of(unknown) == (kind,) for unknown in unknowns])


def states_behind(state, head):
    """The states of the trees behind a node, but a leaf node."""
    word, one = head[:2]
    if word == "kind":
        return [state.narrowed(("kind", one, kind)) for kind in KINDS]
    if word == "most":
        return [state.narrowed(head), state.narrowed(("most", head[2], one, -head[3] - 1))]
    contrary = "unlike" if word == "same" else "other"
    return [state.narrowed(head), state.narrowed((contrary, one, head[2]))]


def tree_of(heads):
    """The tree whose heads these are, each node before the trees behind it, which stand in their order."""
    trees = []
    for head in reversed(heads):
        node = head
        for _ in range(BEHIND[head[0]]):
            node = (*node, trees.pop())
        trees.append(node)
    return trees[0]
