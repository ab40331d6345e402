"""Clashes: two who mustn't be one person, but are joined."""

from personbooks.callnumbers import DIFFER, SINGLE
from personbooks.joins import ALONE, are_one, pairs_in_order, run_labels


def apart_by_one(piece):
    """The two who mustn't be one by this piece alone, or None."""
    if piece[0] == DIFFER:
        return (piece[1], piece[2])
    return None


def apart_by_two(piece, later):
    """The two who mustn't be one by these two pieces, or None."""
    if piece[0] == SINGLE and later[0] == SINGLE and piece[2] == later[2] and piece[3] != later[3]:
        return (piece[1], later[1])
    return None


def bans(evidence):
    """Every clash that may ever be, as (e, e2, the two), in the order of clashes."""
    found = []
    for e, e2 in pairs_in_order(len(evidence)):
        two = apart_by_one(evidence[e]) if e2 == ALONE else apart_by_two(evidence[e], evidence[e2])
        if two is not None:
            found.append((e, e2, two))
    return found


def first_clash(banned, labels):
    """The first clash that there is by these labels, as (e, e2, the two), or None."""
    for ban in banned:
        if are_one(labels, ban[2]):
            return ban
    return None


def told_clash(people, evidence):
    """The told clash, as (e, e2, the two), or None if something fits."""
    return first_clash(bans(evidence), run_labels(people, evidence))
