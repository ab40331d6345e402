"""The line of calls: each is read, refused or answered, and its answer written down."""

from personbooks.joins import groups, run_joins, run_labels, told_clash
from personbooks.papers import BOTH, DIFFER, IF, MOST_EVIDENCE, MOST_PEOPLE, SAME, Papers

PERSON = 0
DROP = 8
FITS = 9
RUN = 10

# By the call's number, a letter for each of its numbers:
# x somebody spoken of, e evidence, f and k as in the words, w a value or number.
FORMS = ("", "xx", "xx", "xfx", "xkw", "xkw", "xxxx", "xxxxxx", "e", "", "", "")

GREATEST = {"x": 15, "e": 29, "f": 3, "k": 5, "w": 1000000000000}

OUT_OF_RANGE = -1
NOT_THERE = -4
ONE_AND_THE_SAME = -5
TOO_MANY = -7


def is_evidence(call):
    """Whether this call tells a piece of evidence."""
    return SAME <= call and call <= BOTH


def is_there(papers, letter, number):
    """Whether what this number tells is there, if it's somebody or evidence."""
    if letter == "x":
        return number < papers.people
    if letter == "e":
        return number < len(papers.evidence)
    return True


def general_refusal(papers, form, numbers):
    """The refusal that any call may have, or 0."""
    for letter, number in zip(form, numbers):
        if number < 0 or number > GREATEST[letter]:
            return OUT_OF_RANGE
    for letter, number in zip(form, numbers):
        if not is_there(papers, letter, number):
            return NOT_THERE
    return 0


def own_refusal(papers, call, numbers):
    """The refusal that's told with the call itself, or 0."""
    if call == PERSON and papers.people == MOST_PEOPLE:
        return TOO_MANY
    # Of each of these the last two are those who mustn't be one and the same.
    if call in (SAME, DIFFER, IF, BOTH) and numbers[-2] == numbers[-1]:
        return ONE_AND_THE_SAME
    if is_evidence(call) and len(papers.evidence) == MOST_EVIDENCE:
        return TOO_MANY
    return 0


def refusal(papers, call, numbers):
    """The first refusal that applies, or 0 if the call is to be answered."""
    found = general_refusal(papers, FORMS[call], numbers)
    if found != 0:
        return found
    return own_refusal(papers, call, numbers)


def add_person(papers):
    """One more is spoken of."""
    papers.people += 1
    return [papers.people - 1]


def add_evidence(papers, call, numbers):
    """One more piece is told, behind all others."""
    papers.evidence.append(tuple([call] + numbers))
    return [len(papers.evidence) - 1]


def drop_evidence(papers, e):
    """The piece is gone, and those behind it move up by one."""
    papers.evidence.pop(e)
    return [len(papers.evidence)]


def fits_answer(papers):
    """1, or 0 and the told clash."""
    clash = told_clash(papers.evidence, run_labels(papers.people, papers.evidence))
    if clash is None:
        return [1]
    return [0, clash[0], clash[1]]


def run_answer(papers):
    """How many joins, then each."""
    joins = run_joins(papers.people, papers.evidence)
    answer = [len(joins)]
    for made in joins:
        answer.extend(made)
    return answer


def books_answer(papers):
    """How many groups, then each as a list."""
    found = groups(run_labels(papers.people, papers.evidence))
    answer = [len(found)]
    for group in found:
        answer.append(len(group))
        answer.extend(group)
    return answer


def accepted(papers, call, numbers):
    """The answer to a call that nothing refuses."""
    if call == PERSON:
        return add_person(papers)
    if is_evidence(call):
        return add_evidence(papers, call, numbers)
    if call == DROP:
        return drop_evidence(papers, numbers[0])
    if call == FITS:
        return fits_answer(papers)
    if call == RUN:
        return run_answer(papers)
    return books_answer(papers)


def answer_to(papers, call, numbers):
    """The numbers that the call answers, or its refusal alone."""
    found = refusal(papers, call, numbers)
    if found != 0:
        return [found]
    return accepted(papers, call, numbers)


def answers(calls):
    """For each call, in order, how many numbers are answered, then these."""
    papers = Papers()
    given = []
    place = 0
    while place < len(calls):
        call = calls[place]
        start = place + 1
        place = start + len(FORMS[call])
        answer = answer_to(papers, call, calls[start:place])
        given.append(len(answer))
        given.extend(answer)
    return given
