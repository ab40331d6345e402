"""Cores: as few pieces of evidence as still make something so."""

from personbooks.clashes import told_clash
from personbooks.verdicts import joined


def core(evidence, is_so):
    """The numbers of the pieces that are left if each, from the last on, is left out where it's still so without it."""
    kept = list(range(len(evidence)))
    for e in range(len(evidence) - 1, -1, -1):
        fewer = [number for number in kept if number != e]
        if is_so([evidence[number] for number in fewer]):
            kept = fewer
    return kept


def joining_core(people, evidence, x, y):
    """The core for x and y being joined, who are so by all evidence."""
    return core(evidence, lambda pieces: joined(people, pieces, x, y))


def clash_core(people, evidence):
    """The core for clashing, of evidence that clashes."""
    return core(evidence, lambda pieces: told_clash(people, pieces) is not None)
