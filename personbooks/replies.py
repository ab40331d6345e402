"""What is answered to the calls that ask, and change nothing: each answer as its list of numbers."""

from personbooks.callnumbers import LINK, SINGLE
from personbooks.clashes import told_clash
from personbooks.cores import clash_core, joining_core
from personbooks.groupings import fitting
from personbooks.joins import groups, run_joins, run_labels
from personbooks.proofs import fault, needs
from personbooks.verdicts import joined, told_same, verdict


def as_list(numbers):
    """How many numbers, then they."""
    return [len(numbers)] + numbers


def fits_reply(papers):
    """1, or 0 and the told clash."""
    clash = told_clash(papers.people, papers.evidence)
    if clash is None:
        return [1]
    return [0, clash[0], clash[1]]


def run_reply(papers):
    """How many joins, then each."""
    joins = run_joins(papers.people, papers.evidence)
    reply = [len(joins)]
    for made in joins:
        reply.extend(made)
    return reply


def books_reply(papers):
    """How many groups, then each as a list."""
    found = groups(run_labels(papers.people, papers.evidence))
    reply = [len(found)]
    for group in found:
        reply.extend(as_list(group))
    return reply


def verdict_reply(papers, x, y):
    """What's sure of them by all evidence."""
    return [verdict(papers.people, papers.evidence, x, y)]


def why_reply(papers, x, y):
    """1 and the joins that their joining needs, or 0."""
    if not joined(papers.people, papers.evidence, x, y):
        return [0]
    joins = run_joins(papers.people, papers.evidence)
    return [1] + as_list(needs(papers.evidence, joins, x, y))


def whynot_reply(papers, x, y):
    """1, the clash that there'd be if they were one, and the joins that it needs; or 0."""
    evidence = told_same(papers.evidence, x, y)
    clash = told_clash(papers.people, evidence)
    if clash is None:
        return [0]
    joins = run_joins(papers.people, evidence)
    needed = needs(evidence, joins, clash[2][0], clash[2][1])
    reply = [1, clash[0], clash[1], len(needed)]
    for number in needed:
        reply.extend(joins[number][:2])
    return reply


def check_reply(papers, x, y, row):
    """1, or 0 and the place of the fault."""
    place = fault(papers.people, papers.evidence, x, y, row)
    if place is None:
        return [1]
    return [0, place]


def core_reply(papers, x, y):
    """1 and the core for their being joined, or 0."""
    if not joined(papers.people, papers.evidence, x, y):
        return [0]
    return [1] + as_list(joining_core(papers.people, papers.evidence, x, y))


def clash_reply(papers):
    """1 and the core for clashing, or 0."""
    if told_clash(papers.people, papers.evidence) is None:
        return [0]
    return [1] + as_list(clash_core(papers.people, papers.evidence))


def known_reply(papers, n, x, y):
    """What's sure of them by the first n pieces alone."""
    return [verdict(papers.people, papers.evidence[:n], x, y)]


def linked_reply(papers, x, f):
    """1 and the least of those who are the f of x, or 0."""
    labels = run_labels(papers.people, papers.evidence)
    for piece in papers.evidence:
        # All such links have joined their y, and a label is the least one of its group.
        if piece[0] == LINK and piece[2] == f and labels[piece[1]] == labels[x]:
            return [1, labels[piece[3]]]
    return [0]


def value_reply(papers, x, k):
    """1 and the value of the kind k that's told first of x, or 0."""
    labels = run_labels(papers.people, papers.evidence)
    for piece in papers.evidence:
        if piece[0] == SINGLE and piece[2] == k and labels[piece[1]] == labels[x]:
            return [1, piece[3]]
    return [0]


def told_reply(papers):
    """How many are spoken of, how many pieces, then each."""
    reply = [papers.people, len(papers.evidence)]
    for piece in papers.evidence:
        reply.extend(piece)
    return reply


def ways_reply(papers, x, y):
    """How many groupings fit, and in how many of them x and y are one."""
    found = fitting(papers.people, papers.evidence)
    return [len(found), len([grouping for grouping in found if grouping[x] == grouping[y]])]
