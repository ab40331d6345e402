"""The line of calls: each is read, refused or answered, and its answer written down."""

from personbooks.callnumbers import (BOOKS, CHECK, CLASH, CORE, DROP, FITS, KNOWN, LINKED, PERSON, RUN, TOLD, VALUE,
                                     VERDICT, WHY, WHYNOT)
from personbooks.papers import Papers
from personbooks.refusals import FORMS, is_evidence, refusal
from personbooks.replies import (books_reply, check_reply, clash_reply, core_reply, fits_reply, known_reply,
                                 linked_reply, run_reply, told_reply, value_reply, verdict_reply, ways_reply,
                                 why_reply, whynot_reply)


def add_person(papers):
    """One more is spoken of."""
    papers.people += 1
    return [papers.people - 1]


def add_evidence(papers, call, numbers):
    """One more piece is told, behind all others."""
    papers.evidence.append(tuple([call] + numbers))
    return [len(papers.evidence) - 1]


def drop_evidence(papers, e):
    """The piece is gone, and those behind it move up by one."""
    papers.evidence.pop(e)
    return [len(papers.evidence)]


def reply_about_all(papers, call):
    """The answer to a call that asks about all that's told."""
    if call == FITS:
        return fits_reply(papers)
    if call == RUN:
        return run_reply(papers)
    if call == BOOKS:
        return books_reply(papers)
    if call == CLASH:
        return clash_reply(papers)
    return told_reply(papers)


def reply_about_some(papers, call, numbers, row):
    """The answer to a call that asks about those whom it tells."""
    if call == VERDICT:
        return verdict_reply(papers, numbers[0], numbers[1])
    if call == WHY:
        return why_reply(papers, numbers[0], numbers[1])
    if call == WHYNOT:
        return whynot_reply(papers, numbers[0], numbers[1])
    if call == CHECK:
        return check_reply(papers, numbers[0], numbers[1], row)
    if call == CORE:
        return core_reply(papers, numbers[0], numbers[1])
    if call == KNOWN:
        return known_reply(papers, numbers[0], numbers[1], numbers[2])
    if call == LINKED:
        return linked_reply(papers, numbers[0], numbers[1])
    if call == VALUE:
        return value_reply(papers, numbers[0], numbers[1])
    return ways_reply(papers, numbers[0], numbers[1])


def accepted(papers, call, numbers, row):
    """The answer to a call that nothing refuses."""
    if call == PERSON:
        return add_person(papers)
    if is_evidence(call):
        return add_evidence(papers, call, numbers)
    if call == DROP:
        return drop_evidence(papers, numbers[0])
    if call in (FITS, RUN, BOOKS, CLASH, TOLD):
        return reply_about_all(papers, call)
    return reply_about_some(papers, call, numbers, row)


def answer_to(papers, call, numbers, row):
    """The numbers that the call answers, or its refusal alone."""
    found = refusal(papers, call, numbers, row)
    if found != 0:
        return [found]
    return accepted(papers, call, numbers, row)


def answers(calls):
    """For each call, in order, how many numbers are answered, then these."""
    papers = Papers()
    given = []
    place = 0
    while place < len(calls):
        call = calls[place]
        start = place + 1
        place = start + len(FORMS[call])
        numbers = calls[start:place]
        row = []
        if call == CHECK:
            start = place + 1
            place = start + calls[place]
            row = calls[start:place]
        answer = answer_to(papers, call, numbers, row)
        given.append(len(answer))
        given.extend(answer)
    return given
