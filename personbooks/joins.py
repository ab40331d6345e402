"""The run: the joins that evidence makes, and the groups they leave.

Labels are a list with one number for each who's spoken of: two have the same label
if they're one and the same, or joined. Those of a run are each the least one of its group.
"""

from personbooks.callnumbers import BOTH, IF, KEY, LINK, SAME

# Stands as e2 where a join or a clash is by one piece alone.
ALONE = -1


def pairs_in_order(count):
    """Every e with every e2 that may stand beside it, in the order of joins and of clashes."""
    pairs = []
    for e in range(count):
        pairs.append((e, ALONE))
        for e2 in range(e + 1, count):
            pairs.append((e, e2))
    return pairs


def steps_by_one(piece):
    """The pairs of this piece: the last is one if all ahead of it are. None if it joins nobody by itself."""
    if piece[0] in (SAME, IF, BOTH):
        return [(piece[place], piece[place + 1]) for place in range(1, len(piece), 2)]
    return None


def steps_by_two(piece, later):
    """The pairs of these two pieces: the last is one if all ahead of it are. None if they join nobody."""
    if piece[0] == KEY and later[0] == KEY and piece[2] == later[2] and piece[3] == later[3]:
        return [(piece[1], later[1])]
    if piece[0] == LINK and later[0] == LINK and piece[2] == later[2]:
        return [(piece[1], later[1]), (piece[3], later[3])]
    return None


def steps(evidence, e, e2):
    """The pairs of e and e2: the last is one if all ahead of it are. None if there's never a join by these."""
    if e2 == ALONE:
        return steps_by_one(evidence[e])
    return steps_by_two(evidence[e], evidence[e2])


def rules(evidence):
    """Every join that may ever be, as (e, e2, its pairs), in the order of joins."""
    found = []
    for e, e2 in pairs_in_order(len(evidence)):
        pairs = steps(evidence, e, e2)
        if pairs is not None:
            found.append((e, e2, pairs))
    return found


def are_one(labels, pair):
    """Whether these two are one and the same, or joined."""
    return labels[pair[0]] == labels[pair[1]]


def all_ahead_are_one(labels, pairs):
    """Whether what the last pair hangs on is so."""
    for pair in pairs[:-1]:
        if not are_one(labels, pair):
            return False
    return True


def first_join(ruled, labels):
    """The first join that there is, as (e, e2, the one, the other), or None."""
    for e, e2, pairs in ruled:
        two = pairs[-1]
        if not are_one(labels, two) and all_ahead_are_one(labels, pairs):
            return (e, e2, two[0], two[1])
    return None


def labels_apart(people):
    """The labels while nobody is joined."""
    return list(range(people))


def labels_joined(labels, one, other):
    """The labels once these two are joined."""
    least = min(labels[one], labels[other])
    greatest = max(labels[one], labels[other])
    return [least if label == greatest else label for label in labels]


def run_joins(people, evidence):
    """The joins of the run, in their order."""
    ruled = rules(evidence)
    labels = labels_apart(people)
    joins = []
    made = first_join(ruled, labels)
    while made is not None:
        joins.append(made)
        labels = labels_joined(labels, made[2], made[3])
        made = first_join(ruled, labels)
    return joins


def run_labels(people, evidence):
    """The labels that the run leaves."""
    labels = labels_apart(people)
    for made in run_joins(people, evidence):
        labels = labels_joined(labels, made[2], made[3])
    return labels


def groups(labels):
    """The groups by their least ones, each rising."""
    found = []
    for least in range(len(labels)):
        if labels[least] == least:
            found.append([x for x in range(len(labels)) if labels[x] == least])
    return found
