"""The run: the joins that evidence makes, the groups they leave, and the clash that is told.

Labels are a list with one number for each who's spoken of: two have the same label
if they're one and the same, or joined. A label is the least one of its group.
"""

from personbooks.papers import BOTH, DIFFER, IF, KEY, LINK, SAME, SINGLE

# Stands as e2 where a join or a clash is by one piece alone.
ALONE = -1


def pairs_in_order(count):
    """Every e with every e2 that may stand beside it, in the order of joins and of clashes."""
    pairs = []
    for e in range(count):
        pairs.append((e, ALONE))
        for e2 in range(e + 1, count):
            pairs.append((e, e2))
    return pairs


def whom_by_one(labels, piece):
    """The two whom this piece alone makes one, or None."""
    if piece[0] == SAME:
        return (piece[1], piece[2])
    if piece[0] == IF and labels[piece[1]] == labels[piece[2]]:
        return (piece[3], piece[4])
    if piece[0] == BOTH and labels[piece[1]] == labels[piece[2]] and labels[piece[3]] == labels[piece[4]]:
        return (piece[5], piece[6])
    return None


def whom_by_two(labels, piece, later):
    """The two whom these two pieces together make one, or None."""
    if piece[0] == KEY and later[0] == KEY and piece[2] == later[2] and piece[3] == later[3]:
        return (piece[1], later[1])
    if piece[0] == LINK and later[0] == LINK and piece[2] == later[2] and labels[piece[1]] == labels[later[1]]:
        return (piece[3], later[3])
    return None


def whom(evidence, labels, e, e2):
    """The two whom e and e2 make one, be they joined already or not, or None."""
    if e2 == ALONE:
        return whom_by_one(labels, evidence[e])
    return whom_by_two(labels, evidence[e], evidence[e2])


def first_join(evidence, labels):
    """The first join that there is, as (e, e2, the one, the other), or None."""
    for e, e2 in pairs_in_order(len(evidence)):
        two = whom(evidence, labels, e, e2)
        if two is not None and labels[two[0]] != labels[two[1]]:
            return (e, e2, two[0], two[1])
    return None


def labels_apart(people):
    """The labels while nobody is joined."""
    return list(range(people))


def labels_joined(labels, one, other):
    """The labels once these two are joined."""
    least = min(labels[one], labels[other])
    greatest = max(labels[one], labels[other])
    return [least if label == greatest else label for label in labels]


def run_joins(people, evidence):
    """The joins of the run, in their order."""
    labels = labels_apart(people)
    joins = []
    made = first_join(evidence, labels)
    while made is not None:
        joins.append(made)
        labels = labels_joined(labels, made[2], made[3])
        made = first_join(evidence, labels)
    return joins


def run_labels(people, evidence):
    """The labels that the run leaves."""
    labels = labels_apart(people)
    for made in run_joins(people, evidence):
        labels = labels_joined(labels, made[2], made[3])
    return labels


def groups(labels):
    """The groups by their least ones, each rising."""
    found = []
    for least in range(len(labels)):
        if labels[least] == least:
            found.append([x for x in range(len(labels)) if labels[x] == least])
    return found


def clashes_alone(labels, piece):
    """Whether this piece alone can't be so."""
    return piece[0] == DIFFER and labels[piece[1]] == labels[piece[2]]


def clashes_with(labels, piece, later):
    """Whether these two pieces can't both be so."""
    if piece[0] != SINGLE or later[0] != SINGLE:
        return False
    return piece[2] == later[2] and piece[3] != later[3] and labels[piece[1]] == labels[later[1]]


def told_clash(evidence, labels):
    """The told clash as (e, e2), by the labels that the run leaves, or None if there's no clash."""
    for e, e2 in pairs_in_order(len(evidence)):
        if e2 == ALONE and clashes_alone(labels, evidence[e]):
            return (e, e2)
        if e2 != ALONE and clashes_with(labels, evidence[e], evidence[e2]):
            return (e, e2)
    return None
