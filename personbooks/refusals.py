"""Refusals: which applies to a call, in the order in which they are looked at."""

from personbooks.callnumbers import BOTH, CHECK, DIFFER, IF, PERSON, SAME, VERDICT, WAYS, WHYNOT
from personbooks.clashes import told_clash
from personbooks.papers import MOST_EVIDENCE, MOST_PEOPLE

# By the call's number, a letter for each of its whole numbers (the list of check is not among them):
# x somebody spoken of, e evidence, n how many pieces, f and k as in the words, w a value or number.
FORMS = ("", "xx", "xx", "xfx", "xkw", "xkw", "xxxx", "xxxxxx", "e", "", "", "",
         "xx", "xx", "xx", "xx", "xx", "", "nxx", "xf", "xk", "", "xx")

GREATEST = {"x": 15, "e": 29, "n": 30, "f": 3, "k": 5, "w": 1000000000000}

# There are 877 groupings of as many; of one more there would be 4140.
MOST_PEOPLE_FOR_WAYS = 7

OUT_OF_RANGE = -1
LIST_NOT_AS_TOLD = -2
NOT_THERE = -4
ONE_AND_THE_SAME = -5
TOO_MANY = -7
CLASHES = -8
TOO_MANY_FOR_WAYS = -9


def is_evidence(call):
    """Whether this call tells a piece of evidence."""
    return SAME <= call and call <= BOTH


def is_there(papers, letter, number):
    """Whether what this number tells is there, if it's somebody or evidence."""
    if letter == "x":
        return number < papers.people
    if letter == "e":
        return number < len(papers.evidence)
    return True


def general_refusal(papers, call, numbers, row):
    """The refusal that any call may have, or 0."""
    form = FORMS[call]
    for letter, number in zip(form, numbers):
        if number < 0 or number > GREATEST[letter]:
            return OUT_OF_RANGE
    for letter, number in zip(form, numbers):
        if not is_there(papers, letter, number):
            return NOT_THERE
    if call == CHECK and len(row) % 2 != 0:
        return LIST_NOT_AS_TOLD
    return 0


def own_refusal(papers, call, numbers):
    """The refusal that's told with the call itself, or 0."""
    if call == PERSON and papers.people == MOST_PEOPLE:
        return TOO_MANY
    # Of each of these the last two are those who mustn't be one and the same.
    if call in (SAME, DIFFER, IF, BOTH, WHYNOT) and numbers[-2] == numbers[-1]:
        return ONE_AND_THE_SAME
    if is_evidence(call) and len(papers.evidence) == MOST_EVIDENCE:
        return TOO_MANY
    if call in (VERDICT, WHYNOT) and told_clash(papers.people, papers.evidence) is not None:
        return CLASHES
    if call == WAYS and papers.people > MOST_PEOPLE_FOR_WAYS:
        return TOO_MANY_FOR_WAYS
    return 0


def refusal(papers, call, numbers, row):
    """The first refusal that applies, or 0 if the call is to be answered."""
    found = general_refusal(papers, call, numbers, row)
    if found != 0:
        return found
    return own_refusal(papers, call, numbers)
