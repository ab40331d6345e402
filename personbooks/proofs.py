"""Proofs: which joins a joining needs, and whether pairs that somebody tells are joins."""

from personbooks.joins import ALONE, all_ahead_are_one, are_one, labels_apart, labels_joined, steps


def ways_from(joins, x):
    """For each who's joined to x, and x: the numbers of the joins on the way from x."""
    ways = {x: []}
    # Each turn reaches at least one more, if there's one left, so there are turns enough.
    for turn in range(len(joins)):
        for number, made in enumerate(joins):
            if made[2] in ways and made[3] not in ways:
                ways[made[3]] = ways[made[2]] + [number]
            elif made[3] in ways and made[2] not in ways:
                ways[made[2]] = ways[made[3]] + [number]
    return ways


def mark_way(needed, joins, pair):
    """Marks the joins on the way between two who are joined, or one and the same."""
    for number in ways_from(joins, pair[0])[pair[1]]:
        needed[number] = True


def needs(evidence, joins, x, y):
    """The numbers of the joins that the joining of x and y needs, rising."""
    needed = [False for made in joins]
    mark_way(needed, joins, (x, y))
    # A join needs joins ahead of it alone, so from the last on each is marked by its turn if it's needed at all.
    for number in range(len(joins) - 1, -1, -1):
        if needed[number]:
            made = joins[number]
            for pair in steps(evidence, made[0], made[1])[:-1]:
                mark_way(needed, joins, pair)
    return [number for number in range(len(joins)) if needed[number]]


def tells_evidence(evidence, e, e2):
    """Whether e and e2 are evidence that's there, e2 above e, or e alone."""
    if e < 0 or e >= len(evidence):
        return False
    return e2 == ALONE or (e2 > e and e2 < len(evidence))


def whom(evidence, labels, e, e2):
    """The two whom the join by e and e2 joins, be they joined already or not, or None if it's no join now."""
    if not tells_evidence(evidence, e, e2):
        return None
    pairs = steps(evidence, e, e2)
    if pairs is None or not all_ahead_are_one(labels, pairs):
        return None
    return pairs[-1]


def fault(people, evidence, x, y, row):
    """The place of the first pair of the row that's no join, how many pairs if x and y aren't joined then, or None."""
    labels = labels_apart(people)
    for place in range(len(row) // 2):
        two = whom(evidence, labels, row[2 * place], row[2 * place + 1])
        if two is None:
            return place
        labels = labels_joined(labels, two[0], two[1])
    if are_one(labels, (x, y)):
        return None
    return len(row) // 2
