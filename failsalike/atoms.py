"""Atoms: what is said of the values of unknowns, and whether it can all be so."""

from failsalike.states import narrowed_by, start


def solution(frame, *atoms):
    """Values of all unknowns for which all atoms hold; None if there are none."""
    state = narrowed_by(start(frame, {}), atoms)
    if state.is_void:
        return None
    found = state.values_found()
    return tuple([(unknown, found[unknown]) for unknown, _ in frame])


def is_contradiction(frame, atoms):
    """Whether some atoms have no solution."""
    return narrowed_by(start(frame, {}), atoms).is_void


def contradiction(frame, *atoms):
    """Some of the atoms that contradict one another, none of which can be left out; None if all have a solution."""
    first = start(frame, {})
    kept = [atom for at, atom in enumerate(atoms) if atom not in atoms[:at]]
    if not narrowed_by(first, kept).is_void:
        return None
    for atom in list(kept):
        others = [other for other in kept if other != atom]
        if narrowed_by(first, others).is_void:
            kept = others
    return tuple(kept)


def settled(frame, atoms, test):
    """Whether a test holds for all solutions of some atoms, True, or for none, False; otherwise None."""
    return narrowed_by(start(frame, {}), atoms).settled(test)
