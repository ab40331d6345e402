"""What's sure of two: that they're one, that they aren't, or neither."""

from personbooks.callnumbers import SAME
from personbooks.clashes import told_clash
from personbooks.joins import run_labels

CLASHING = 0
SURELY_ONE = 1
SURELY_NOT = 2
EITHER = 3


def joined(people, evidence, x, y):
    """Whether the run joins them, or they're one and the same."""
    labels = run_labels(people, evidence)
    return labels[x] == labels[y]


def told_same(evidence, x, y):
    """The evidence as it were if same x y were told behind all."""
    return evidence + [(SAME, x, y)]


def verdict(people, evidence, x, y):
    """What's sure of x and y by this evidence."""
    if told_clash(people, evidence) is not None:
        return CLASHING
    if joined(people, evidence, x, y):
        return SURELY_ONE
    if told_clash(people, told_same(evidence, x, y)) is not None:
        return SURELY_NOT
    return EITHER
