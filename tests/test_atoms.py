"""Atoms: each sort alone and with others, beside a search through all values."""

import random
import time
import unittest
from itertools import permutations, product

from failsalike.atoms import contradiction, is_contradiction, settled, solution
from tests.everyvalue import is_word, kind

R = 10**12
KINDS = ("nothing", "number", "word")
A, B, C = ("a", "x"), ("b", "x"), ("c", "x")
GREAT = 10**39


def frame(*kinds):
    return tuple((("abcdefgh"[at], "x"), each) for at, each in enumerate(kinds))


FREE = frame(KINDS, KINDS, KINDS)
NUMBERS = frame(*[("number",)] * 3)
WORDS = frame(*[("word",)] * 3)


def holds(values, atom):
    """Whether an atom holds for values by unknowns."""
    values = {**values, (): 0}
    one = values[atom[1]]
    if atom[0] == "kind":
        return kind(one) == atom[2]
    if atom[0] in ("word", "other"):
        return kind(one) == "word" and (one == atom[2]) == (atom[0] == "word")
    other = values[atom[2]]
    if atom[0] == "most":
        return kind(one) == kind(other) == "number" and one - other <= atom[3]
    return kind(one) == kind(other) == "word" and (one == other) == (atom[0] == "same")


def row(kinds=("number",), many=40):
    """A frame of many unknowns, ascending."""
    return tuple((("t", at, "x"), kinds) for at in range(many))


class Atoms(unittest.TestCase):
    def check(self, given, *atoms):
        """Checks what is returned; whether there is a solution."""
        found = solution(given, *atoms)
        self.assertEqual(is_contradiction(given, atoms), found is None)
        self.assertEqual(is_contradiction(given, atoms), contradiction(given, *atoms) is not None)
        if found is not None:
            self.assertEqual(tuple(unknown for unknown, _ in found), tuple(unknown for unknown, _ in given))
            for (_, kinds), (_, value) in zip(given, found):
                self.assertIn(kind(value), kinds)
                self.assertTrue(value is None or is_word(value) or -R <= value <= R)
            self.assertTrue(all(holds(dict(found), atom) for atom in atoms), (given, atoms, found))
            return True
        core = contradiction(given, *atoms)
        self.assertIsInstance(core, tuple)
        self.assertEqual(len(set(core)), len(core))
        at = -1
        for atom in core:
            # In the order in which they were passed.
            at = min(place for place in range(at + 1, len(atoms)) if atoms[place] == atom)
        self.assertIsNone(solution(given, *core))
        for atom in core:
            self.assertIsNotNone(solution(given, *[other for other in core if other != atom]))
        return False

    def so(self, given, *atoms):
        self.assertTrue(self.check(given, *atoms), atoms)

    def not_so(self, given, *atoms):
        self.assertFalse(self.check(given, *atoms), atoms)

    def test_no_atoms(self):
        self.so(FREE)
        self.so(())
        self.assertEqual(solution(()), ())
        self.assertEqual(contradiction(()), None)
        self.assertIs(is_contradiction((), ()), False)

    def test_each_alone(self):
        for each in KINDS:
            self.so(FREE, ("kind", A, each))
        self.so(FREE, ("most", A, B, 0))
        self.so(FREE, ("same", A, B))
        self.so(FREE, ("unlike", A, B))
        self.so(FREE, ("word", A, "cup"))
        self.so(FREE, ("other", A, "cup"))

    def test_kinds_that_are_not_there(self):
        for each in KINDS:
            others = tuple(other for other in KINDS if other != each)
            given = frame(others, KINDS)
            self.not_so(given, ("kind", A, each))
            if each == "number":
                self.not_so(given, ("most", A, B, R))
                self.not_so(given, ("most", B, A, R))
                self.not_so(given, ("most", A, (), R))
            if each == "word":
                for atom in (("same", A, B), ("unlike", B, A), ("word", A, "a"), ("other", A, "a")):
                    self.not_so(given, atom)

    def test_kinds_exclude_one_another(self):
        atoms = {
            "nothing": [("kind", A, "nothing")],
            "number": [("kind", A, "number"), ("most", A, B, 0), ("most", B, A, 3), ("most", A, (), 1)],
            "word": [("kind", A, "word"), ("same", A, B), ("unlike", A, B), ("word", A, "a"), ("other", A, "a")],
        }
        for one, other in product(KINDS, KINDS):
            for first, second in product(atoms[one], atoms[other]):
                apart = one != other or {first[0], second[0]} == {"same", "unlike"}
                apart = apart or {first[0], second[0]} == {"word", "other"}
                self.assertEqual(self.check(FREE, first, second), not apart, (first, second))
                if apart:
                    self.assertEqual(contradiction(FREE, first, second), (first, second))
                    self.assertEqual(contradiction(FREE, second, first), (second, first))

    def test_an_unknown_twice_in_one_atom(self):
        self.so(FREE, ("most", A, A, 0))
        self.so(FREE, ("most", A, A, GREAT))
        self.not_so(FREE, ("most", A, A, -1))
        self.so(FREE, ("same", A, A))
        self.not_so(FREE, ("unlike", A, A))
        self.assertEqual(dict(solution(FREE, ("same", A, A)))[A].isalpha(), True)
        self.not_so(frame(("nothing", "word")), ("most", A, A, 5))
        self.not_so(frame(("nothing", "number")), ("same", A, A))

    def test_the_number_zero(self):
        self.so(NUMBERS, ("most", A, (), -R))
        self.not_so(NUMBERS, ("most", A, (), -R - 1))
        self.so(NUMBERS, ("most", (), A, -R))
        self.not_so(NUMBERS, ("most", (), A, -R - 1))
        self.assertEqual(dict(solution(NUMBERS, ("most", A, (), -R)))[A], -R)
        self.assertEqual(dict(solution(NUMBERS, ("most", (), A, -R)))[A], R)
        self.assertEqual(dict(solution(NUMBERS, ("most", (), A, 7), ("most", A, (), -7)))[A], -7)
        self.not_so(NUMBERS, ("most", (), A, 7), ("most", A, (), -8))
        self.not_so(FREE, ("most", (), A, 7), ("kind", A, "word"))

    def test_integers_of_forty_digits(self):
        self.so(NUMBERS, ("most", A, B, GREAT), ("most", (), A, GREAT))
        self.not_so(NUMBERS, ("most", A, B, -GREAT))
        self.not_so(NUMBERS, ("most", (), A, -GREAT))
        self.so(NUMBERS, ("most", A, B, -2 * R))
        self.not_so(NUMBERS, ("most", A, B, -2 * R - 1))
        self.assertEqual(settled(NUMBERS, (), ("most", A, B, GREAT)), True)
        self.assertEqual(settled(NUMBERS, (), ("most", A, B, -GREAT)), False)
        self.assertEqual(settled(NUMBERS, (), ("most", A, B, 2 * R)), True)
        self.assertEqual(settled(NUMBERS, (), ("most", A, B, 2 * R - 1)), None)
        self.assertEqual(settled(NUMBERS, (), ("most", A, B, -2 * R)), None)
        self.assertEqual(settled(NUMBERS, (), ("most", A, B, -2 * R - 1)), False)

    def test_rings_of_differences(self):
        for many in (2, 3, 7, 40):
            given = row(many=many)
            unknowns = [unknown for unknown, _ in given]
            gaps = [(at * 7) % 11 - 5 for at in range(many - 1)]
            for last, is_so in ((-sum(gaps), True), (-sum(gaps) - 1, False)):
                ring = [
                    ("most", unknowns[at], unknowns[(at + 1) % many], gap) for at, gap in enumerate(gaps + [last])
                ]
                self.assertEqual(self.check(given, *ring), is_so)
                if not is_so:
                    self.assertEqual(contradiction(given, *ring), tuple(ring))

    def test_rows_of_differences_that_fill_the_range(self):
        given = row(many=5)
        unknowns = [unknown for unknown, _ in given]
        steps = [R // 2, R // 2, R // 2, 2 * R - 3 * (R // 2)]
        row_of = [("most", unknowns[at], unknowns[at + 1], -step) for at, step in enumerate(steps)]
        self.so(given, *row_of)
        self.assertEqual([value for _, value in solution(given, *row_of)], [-R, -R // 2, 0, R // 2, R])
        # One more choice, and one step too many.
        freer = [("most", unknowns[0], unknowns[1], -steps[0] + 1)] + row_of[1:]
        self.so(given, *freer)
        self.assertIsNone(settled(given, tuple(freer), ("most", unknowns[0], (), -R)))
        self.assertEqual(settled(given, tuple(row_of), ("most", unknowns[0], (), -R)), True)
        self.not_so(given, ("most", unknowns[0], unknowns[1], -steps[0] - 1), *row_of[1:])

    def test_words(self):
        self.so(WORDS, ("same", A, B), ("unlike", B, C))
        self.not_so(WORDS, ("same", A, B), ("same", C, B), ("unlike", A, C))
        self.not_so(WORDS, ("word", A, "cup"), ("word", B, "cup"), ("unlike", B, A))
        self.not_so(WORDS, ("word", A, "cup"), ("word", B, "hat"), ("same", B, A))
        self.not_so(WORDS, ("word", A, "cup"), ("word", A, "hat"))
        self.not_so(WORDS, ("word", A, "cup"), ("same", A, B), ("other", B, "cup"))
        self.not_so(WORDS, ("unlike", A, C), ("same", A, B), ("same", B, C))
        self.so(WORDS, ("other", A, "a"), ("other", A, "b"), ("other", B, "c"), ("unlike", A, B), ("unlike", B, C))
        self.so(WORDS, ("word", A, "a"), ("unlike", A, B), ("unlike", B, C), ("unlike", C, A), ("word", C, "b"))
        self.so(WORDS, ("other", A, "cup"), ("word", B, "cup"), ("unlike", A, B))
        self.not_so(WORDS, ("other", A, "cup"), ("same", A, B), ("same", C, B), ("word", C, "cup"))
        self.so(WORDS, ("word", A, "zzzzzzzz"), ("other", B, "zzzzzzzz"))

    def test_words_in_every_order(self):
        near = [(("unlike", A, C), ("unlike", C, A)), (("same", B, C), ("same", C, B)), (("same", A, B), ("same", B, A))]
        for atoms in permutations(near):
            for chosen in product(*atoms):
                self.not_so(WORDS, *chosen)
        fixed = [(("other", A, "cup"),), (("same", A, B), ("same", B, A)), (("word", B, "cup"),)]
        for atoms in permutations(fixed):
            for chosen in product(*atoms):
                self.not_so(WORDS, *chosen)
        for atoms in permutations((("unlike", A, B), ("same", B, C), ("word", C, "cup"), ("word", A, "cup"))):
            self.not_so(WORDS, *atoms)

    def test_many_words_that_are_unlike(self):
        given = row(("word",))
        unknowns = [unknown for unknown, _ in given]
        atoms = [("unlike", unknowns[at], unknowns[to]) for at in range(11) for to in range(at)]
        self.assertEqual(len(atoms), 55)
        self.so(given, *atoms)
        # All of forty unlike one another: more than there are letters, and words that may be none of these.
        every = [("unlike", unknowns[at], unknowns[to]) for at in range(40) for to in range(at)]
        barred = [("other", unknowns[at], "abcdefghijklmnopqrstuvwxyz"[at % 26]) for at in range(40)]
        self.so(given, *every[:400], *barred)
        values = [value for _, value in solution(given, *every)]
        self.assertEqual(len(set(values)), 40)
        self.not_so(given, *atoms, ("same", unknowns[3], unknowns[7]))

    def test_unknowns_without_kinds(self):
        given = ((A, ()), (B, KINDS))
        self.assertIsNone(solution(given))
        self.assertIs(is_contradiction(given, ()), True)
        self.assertEqual(contradiction(given), ())
        self.assertEqual(contradiction(given, ("kind", B, "word"), ("kind", B, "number")), ())

    def test_atoms_twice(self):
        twice = ("most", A, B, -1)
        self.so(NUMBERS, twice, twice)
        self.not_so(NUMBERS, twice, ("most", B, A, 0), twice)
        self.assertEqual(len(contradiction(NUMBERS, twice, twice, ("most", B, A, 0), ("most", B, A, 0))), 2)

    def test_some_of_many(self):
        atoms = [("most", A, B, 5), ("kind", C, "number"), ("word", B, "a"), ("most", A, C, 3), ("most", C, A, 4)]
        core = contradiction(FREE, *atoms)
        self.assertEqual(core, (atoms[0], atoms[2]))
        self.not_so(FREE, *atoms)

    def test_settled(self):
        self.assertIs(settled(NUMBERS, (), ("kind", A, "number")), True)
        self.assertIs(settled(NUMBERS, (), ("kind", A, "word")), False)
        self.assertIsNone(settled(FREE, (), ("kind", A, "word")))
        self.assertIs(settled(FREE, (("other", A, "a"),), ("kind", A, "word")), True)
        self.assertIsNone(settled(FREE, (), ("most", A, A, 0)))
        self.assertIs(settled(FREE, (), ("most", A, A, -1)), False)
        self.assertIs(settled(NUMBERS, (), ("most", A, A, 0)), True)
        self.assertIsNone(settled(FREE, (), ("same", A, A)))
        self.assertIs(settled(WORDS, (), ("same", A, A)), True)
        self.assertIs(settled(WORDS, (), ("unlike", A, A)), False)
        self.assertIs(settled(FREE, (), ("unlike", A, A)), False)
        self.assertIs(settled(FREE, (("word", A, "a"), ("word", B, "a")), ("same", A, B)), True)
        self.assertIs(settled(FREE, (("word", A, "a"), ("word", B, "b")), ("unlike", A, B)), True)
        self.assertIs(settled(FREE, (("word", A, "a"), ("unlike", A, B)), ("other", B, "a")), True)
        self.assertIs(settled(FREE, (("word", A, "a"), ("unlike", A, B)), ("word", B, "a")), False)
        self.assertIsNone(settled(FREE, (("word", A, "a"), ("unlike", A, B)), ("word", B, "b")))
        self.assertIs(settled(FREE, (("kind", A, "nothing"),), ("word", A, "a")), False)
        # What holds for all numbers need not hold for all values.
        self.assertIsNone(settled(FREE, (), ("most", A, (), R)))
        self.assertIs(settled(FREE, (("kind", A, "number"),), ("most", A, (), R)), True)
        self.assertIsNone(settled(FREE, (("kind", A, "number"),), ("most", A, (), R - 1)))
        self.assertIs(settled(FREE, (), ("most", A, (), -R - 1)), False)

    def test_names_and_arguments(self):
        self.assertEqual(is_contradiction(frame=FREE, atoms=()), False)
        self.assertEqual(settled(frame=FREE, atoms=(), test=("kind", A, "word")), None)
        self.assertEqual(dict(solution(((("t", 3, "x"), ("number",)), (("t", 12, "x"), ("word",)))))[("t", 3, "x")] is None, False)

    def test_beside_a_search_through_all_values(self):
        rng = random.Random(11)
        values = [None, -R, -R + 1, -R + 2, -3, -2, -1, 0, 1, 2, 3, R - 2, R - 1, R, "p", "q", "r", "s", "t"]
        met = []
        for _ in range(400):
            kinds = [tuple(each for each in KINDS if rng.random() < 0.75) or KINDS for _ in range(rng.randint(1, 3))]
            given = frame(*kinds)
            unknowns = [unknown for unknown, _ in given]
            atoms = [self.some_atom(rng, unknowns) for _ in range(rng.randint(1, 6))]
            if rng.random() < 0.3:
                atoms.append(rng.choice(atoms))
            domains = [[value for value in values if kind(value) in each] for each in kinds]
            every = [dict(zip(unknowns, way)) for way in product(*domains)]
            every = [each for each in every if all(holds(each, atom) for atom in atoms)]
            self.assertEqual(self.check(given, *atoms), every != [], (given, atoms))
            met.append(every != [])
            if every:
                test = self.some_atom(rng, unknowns)
                answers = {holds(each, test) for each in every}
                self.assertEqual(settled(given, tuple(atoms), test), answers.pop() if len(answers) == 1 else None)
        self.assertGreater(min(met.count(True), met.count(False)), 80)

    def some_atom(self, rng, unknowns):
        one, other = rng.choice(unknowns), rng.choice(unknowns)
        word = rng.choice(("kind", "most", "most", "most", "same", "unlike", "word", "other"))
        if word == "kind":
            return (word, one, rng.choice(KINDS))
        if word in ("word", "other"):
            return (word, one, rng.choice(("p", "q")))
        if word != "most":
            return (word, one, other)
        ends = rng.choice(((one, other), (one, other), (one, ()), ((), other)))
        return (word, *ends, rng.choice((0, 0, 1, -1, -1, R, -R, 2 * R, -2 * R, GREAT)))

    def test_frames_of_forty_unknowns_with_sixty_atoms(self):
        began = time.process_time()
        rng = random.Random(5)
        given = row(KINDS)
        unknowns = [unknown for unknown, _ in given]
        for _ in range(4):
            order = {unknown: at for at, unknown in enumerate(rng.sample(unknowns, 40))}
            atoms = []
            for _ in range(59):
                one, other = sorted(rng.sample(unknowns, 2), key=order.get)
                atoms.append(("most", one, other, -rng.randint(1, 10**9)))
            self.so(given, *atoms)
            first, last = min(order, key=order.get), max(order, key=order.get)
            self.check(given, *atoms, ("most", last, first, 0))
            ring = [("most", unknowns[at], unknowns[at - 1], 1) for at in range(40)]
            self.so(given, *ring, *[("most", unknowns[0], unknowns[at], 40) for at in range(1, 21)])
            self.not_so(given, *ring, *[("most", unknowns[0], unknowns[at], -41 - at) for at in range(1, 21)])
        self.assertLess(time.process_time() - began, 20)
