"""What atoms leave of the values of unknowns: their kinds, the differences of numbers, which words are equal."""

from failsalike.values import RANGE

LETTERS = "abcdefghijklmnopqrstuvwxyz"
# Atoms about the words of two unknowns.
OF_TWO = ("same", "unlike")
# Atoms by which two words are equal.
EQUAL = ("same", "word")


class State:
    """All that some atoms say of the unknowns of a frame; a state never changes."""

    def __init__(self, spots, kinds, gaps, leaders, apart):
        # The unknowns have spots from 1 on; the spot 0 is that of (), the number 0.
        self.spots = spots
        # By spots: the kinds that are left.
        self.kinds = kinds
        # By spots i and j: how great i - j may be, given all that is known; no row is ever changed.
        self.gaps = gaps
        # Words that are known to be equal have one leader; nodes are spots and words, and a word always leads.
        self.leaders = leaders
        # Pairs of leaders, in both orders, that are unlike; two words need not be told.
        self.apart = apart
        self.is_void = False

    def kinds_of(self, unknown):
        """The kinds that an unknown may have."""
        return self.kinds[self.spots[unknown]]

    def voided(self):
        """The state of atoms that contradict one another."""
        other = State(self.spots, self.kinds, self.gaps, self.leaders, self.apart)
        other.is_void = True
        return other

    def narrowed(self, atom):
        """The state with one more atom."""
        word = atom[0]
        if word == "kind":
            return self.of_kind(atom[1], atom[2])
        if word == "most":
            return self.of_kind(atom[1], "number").of_kind(atom[2], "number").closer(atom[1], atom[2], atom[3])
        held = self.of_kind(atom[1], "word")
        if word in OF_TWO:
            held = held.of_kind(atom[2], "word")
        one, other = self.nodes(atom)
        return held.joined(one, other) if word in EQUAL else held.parted(one, other)

    def nodes(self, atom):
        """The nodes of both sides of an atom about words."""
        other = self.spots[atom[2]] if atom[0] in OF_TWO else atom[2]
        return (self.spots[atom[1]], other)

    def of_kind(self, unknown, kind):
        """The state in which an unknown has a kind."""
        spot = self.spots[unknown]
        if self.is_void or self.kinds[spot] == (kind,):
            return self
        if kind not in self.kinds[spot]:
            return self.voided()
        kinds = list(self.kinds)
        kinds[spot] = (kind,)
        return State(self.spots, kinds, self.gaps, self.leaders, self.apart)

    def closer(self, one, other, most):
        """The state in which a number less another one is at most this integer."""
        high, low = self.spots[one], self.spots[other]
        if self.is_void or self.gaps[high][low] <= most:
            return self
        if self.gaps[low][high] + most < 0:
            return self.voided()
        behind = self.gaps[low]
        gaps = []
        for row in self.gaps:
            way = row[high] + most
            # A row whose way to the lower number gets no shorter gets no other way shorter either.
            gaps.append([min(gap, way + rest) for gap, rest in zip(row, behind)] if way < row[low] else row)
        return State(self.spots, self.kinds, gaps, self.leaders, self.apart)

    def leader(self, node):
        """The leader of the words that are equal to that of a node."""
        return self.leaders.get(node, node)

    def are_apart(self, one, other):
        """Whether two leaders are known to be unlike."""
        return isinstance(one, str) and isinstance(other, str) or (one, other) in self.apart

    def joined(self, one, other):
        """The state in which the words of two nodes are equal."""
        kept, gone = self.leader(one), self.leader(other)
        if self.is_void or kept == gone:
            return self
        if self.are_apart(kept, gone):
            return self.voided()
        if isinstance(gone, str):
            kept, gone = gone, kept
        leaders = {node: kept if led == gone else led for node, led in self.leaders.items()}
        leaders[gone] = kept
        leaders[kept] = kept
        apart = {}
        for left, right in self.apart:
            apart[(kept if left == gone else left, kept if right == gone else right)] = True
        return State(self.spots, self.kinds, self.gaps, leaders, apart)

    def parted(self, one, other):
        """The state in which the words of two nodes are unlike."""
        left, right = self.leader(one), self.leader(other)
        if self.is_void:
            return self
        if left == right:
            return self.voided()
        if self.are_apart(left, right):
            return self
        apart = {pair: True for pair in self.apart}
        apart[(left, right)] = True
        apart[(right, left)] = True
        return State(self.spots, self.kinds, self.gaps, self.leaders, apart)

    def settled_gap(self, one, other, most):
        """Whether a number less another one is at most this integer; None if it may be and may not."""
        high, low = self.spots[one], self.spots[other]
        if self.gaps[high][low] <= most:
            return True
        return False if self.gaps[low][high] + most < 0 else None

    def settled_words(self, one, other):
        """Whether the words of two nodes are equal; None if they may be and may not."""
        left, right = self.leader(one), self.leader(other)
        if left == right:
            return True
        return False if self.are_apart(left, right) else None

    def settled(self, atom):
        """Whether an atom holds for all solutions, True, or for none, False; otherwise None."""
        sides = self.sides(atom)
        kind = {"kind": atom[2], "most": "number"}.get(atom[0], "word")
        if not all([kind in self.kinds_of(unknown) for unknown in sides]):
            return False
        answer = self.settled_alone(atom)
        if answer is False or all([self.kinds_of(unknown) == (kind,) for unknown in sides]):
            return answer
        return None

    def sides(self, atom):
        """The unknowns of an atom, () among them where it stands."""
        return atom[1:3] if atom[0] == "most" or atom[0] in OF_TWO else (atom[1],)

    def settled_alone(self, atom):
        """Whether an atom holds for all solutions in which its unknowns have the kind that it asks for."""
        if atom[0] == "kind":
            return True
        if atom[0] == "most":
            return self.settled_gap(atom[1], atom[2], atom[3])
        one, other = self.nodes(atom)
        answer = self.settled_words(one, other)
        return answer if answer is None or atom[0] in EQUAL else not answer

    def values_found(self):
        """The values of a solution by unknowns."""
        words = self.words_found()
        found = {}
        for unknown, spot in self.spots.items():
            kind = self.kinds[spot][0]
            if kind == "nothing":
                found[unknown] = None
            elif kind == "number":
                # The greatest solution: each number is as great as its ways to the number 0 let it be.
                found[unknown] = self.gaps[spot][0]
            else:
                found[unknown] = words[self.leader(spot)]
        return found

    def words_found(self):
        """Words by leaders, all of them different."""
        told = [node for node in self.leaders if isinstance(node, str)]
        told.extend([left for left, _ in self.apart if isinstance(left, str)])
        words = {word: word for word in told}
        at = 0
        for spot in range(1, len(self.kinds)):
            while name_at(at) in told:
                at += 1
            words[spot] = name_at(at)
            at += 1
        return words


def name_at(number):
    """A name, another one for each number."""
    name = LETTERS[number % 26]
    while number >= 26:
        number = number // 26 - 1
        name = LETTERS[number % 26] + name
    return name


def start(frame, spans):
    """The state without atoms; spans has the least and the greatest number of some unknowns."""
    spots = {(): 0}
    kinds = [("number",)]
    ends = [(0, 0)]
    for unknown, declared in frame:
        spots[unknown] = len(kinds)
        low, high = spans.get(unknown, (-RANGE, RANGE))
        if low > high:
            # There is no number between such ends.
            declared = tuple([kind for kind in declared if kind != "number"])
            low, high = (-RANGE, RANGE)
        kinds.append(declared)
        ends.append((low, high))
    spread = range(len(ends))
    gaps = [[0 if at == to else ends[at][1] - ends[to][0] for to in spread] for at in spread]
    state = State(spots, kinds, gaps, {}, {})
    state.is_void = () in kinds
    return state


def narrowed_by(state, atoms):
    """The state with some more atoms."""
    for atom in atoms:
        state = state.narrowed(atom)
    return state
