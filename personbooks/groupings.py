"""All groupings of a few, and which of them fit.

A grouping is a list of labels: for each who's spoken of the number of a person, persons numbered as they come.
"""

from personbooks.clashes import bans, first_clash
from personbooks.joins import first_join, rules


def with_one_more(shorter):
    """Each of these groupings with one more behind: one of the persons who are there, or another."""
    longer = []
    for grouping in shorter:
        for label in range(max(grouping, default=-1) + 2):
            longer.append(grouping + [label])
    return longer


def all_groupings(people):
    """Every grouping of as many."""
    found = [[]]
    for turn in range(people):
        found = with_one_more(found)
    return found


def fitting(people, evidence):
    """Every grouping in which all evidence is so: it leaves no join to be made, and no clash."""
    ruled = rules(evidence)
    banned = bans(evidence)
    return [grouping for grouping in all_groupings(people)
            if first_join(ruled, grouping) is None and first_clash(banned, grouping) is None]
