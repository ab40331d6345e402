"""What the tests share: calls by name, answers cut call by call, and a second, slower reading of the document."""

import itertools
import random

from personbooks.books import answers

FAR = 10 ** 18
GREATEST_VALUE = 10 ** 12


def person():
    return [0]


def same(x, y):
    return [1, x, y]


def differ(x, y):
    return [2, x, y]


def link(x, f, y):
    return [3, x, f, y]


def key(x, k, w):
    return [4, x, k, w]


def single(x, k, w):
    return [5, x, k, w]


def if_so(x, y, u, v):
    return [6, x, y, u, v]


def both(x, y, p, q, u, v):
    return [7, x, y, p, q, u, v]


def drop(e):
    return [8, e]


FITS = [9]
RUN = [10]
BOOKS = [11]


def line(*calls):
    """The calls, one behind another, as they are handed in."""
    return [number for call in calls for number in call]


def cut(given):
    """What is given back, cut into one list for each call."""
    parts = []
    place = 0
    while place < len(given):
        count = given[place]
        if count < 1 or place + 1 + count > len(given):
            raise AssertionError(f"no such count: {count} at {place}")
        parts.append(given[place + 1:place + 1 + count])
        place += 1 + count
    return parts


def ask(*calls):
    """The answers to these calls, one list for each."""
    return cut(answers(line(*calls)))


def told(people, *calls):
    """The answers to these calls behind as many persons."""
    return ask(*([person()] * people), *calls)[people:]


def last(people, *calls):
    """The answer to the last of these calls behind as many persons."""
    return told(people, *calls)[-1]


def groupings(people):
    """Every way to part as many into persons: for each of them the number of a person."""
    if people == 0:
        yield ()
        return
    for shorter in groupings(people - 1):
        for label in range(len(set(shorter)) + 1):
            yield shorter + (label,)


def is_so(piece, grouping):
    """Whether one piece by itself is so; links, keys and singles are looked at two by two."""
    kind, numbers = piece[0], piece[1:]
    one = [grouping[a] == grouping[b] for a, b in zip(numbers[::2], numbers[1::2])] if kind in (1, 2, 6, 7) else []
    if kind == 1:
        return one[0]
    if kind == 2:
        return not one[0]
    if kind in (6, 7):
        return one[-1] or not all(one[:-1])
    return True


def are_so(piece, later, grouping):
    """Whether two pieces are so beside one another."""
    if piece[0] != later[0] or piece[0] not in (3, 4, 5) or piece[2] != later[2]:
        return True
    one = grouping[piece[1]] == grouping[later[1]]
    if piece[0] == 3:
        return not one or grouping[piece[3]] == grouping[later[3]]
    if piece[0] == 4:
        return one or piece[3] != later[3]
    return not one or piece[3] == later[3]


def fitting(people, evidence):
    """Every grouping that fits."""
    return [grouping for grouping in groupings(people)
            if all(is_so(piece, grouping) for piece in evidence)
            and all(are_so(a, b, grouping) for a, b in itertools.combinations(evidence, 2))]


def slow_books(people, evidence):
    """The groups of those who are one in every grouping that what can join (no differ, no single) fits."""
    fits = fitting(people, [piece for piece in evidence if piece[0] not in (2, 5)])
    found = []
    for x in range(people):
        group = [y for y in range(people) if all(grouping[x] == grouping[y] for grouping in fits)]
        if group not in found:
            found.append(group)
    return [len(found)] + [number for group in found for number in [len(group)] + group]


def slow_run(people, evidence):
    """The joins, each the least of all that there are then."""
    group = {x: frozenset([x]) for x in range(people)}
    made = []
    while True:
        there = []
        for e, piece in enumerate(evidence):
            numbers = piece[1:]
            ahead = list(zip(numbers[::2], numbers[1::2]))
            if piece[0] in (1, 6, 7) and all(b in group[a] for a, b in ahead[:-1]):
                there.append((e, -1) + ahead[-1])
            for e2 in range(e + 1, len(evidence)):
                other = evidence[e2]
                if piece[0] == other[0] == 4 and piece[2:] == other[2:]:
                    there.append((e, e2, piece[1], other[1]))
                if piece[0] == other[0] == 3 and piece[2] == other[2] and other[1] in group[piece[1]]:
                    there.append((e, e2, piece[3], other[3]))
        there = [join for join in there if join[3] not in group[join[2]]]
        if not there:
            return [len(made)] + [number for join in made for number in join]
        first = min(there)
        made.append(first)
        whole = group[first[2]] | group[first[3]]
        for x in whole:
            group[x] = whole


def slow_fits(people, evidence):
    """1, or 0 and the least of all clashes between what is told and the slow books."""
    books = slow_books(people, evidence)
    label = {}
    place = 1
    while place < len(books):
        for x in books[place + 1:place + 1 + books[place]]:
            label[x] = place
        place += 1 + books[place]
    there = [(e, -1) for e, piece in enumerate(evidence) if piece[0] == 2 and label[piece[1]] == label[piece[2]]]
    for (e, piece), (e2, other) in itertools.combinations(enumerate(evidence), 2):
        if piece[0] == other[0] == 5 and piece[2] == other[2] and piece[3] != other[3]:
            if label[piece[1]] == label[other[1]]:
                there.append((e, e2))
    return [0] + list(min(there)) if there else [1]


def some_piece(chance, people):
    """A piece of evidence that nothing refuses, of few keys and values, so that they meet often."""
    def two():
        return chance.sample(range(people), 2)

    def anyone():
        return chance.randrange(people)

    kind = chance.choice([1, 2, 3, 3, 3, 4, 4, 5, 5, 6, 6, 7, 7])
    if kind in (1, 2):
        return [kind] + two()
    if kind == 3:
        return [kind, anyone(), chance.randrange(2), anyone()]
    if kind in (4, 5):
        return [kind, anyone(), chance.randrange(2), chance.randrange(3)]
    if kind == 6:
        return [kind, anyone(), anyone()] + two()
    return [kind, anyone(), anyone(), anyone(), anyone()] + two()


def some_evidence(seed, people, most):
    """Pieces that are the same for the same seed."""
    chance = random.Random(seed)
    return [some_piece(chance, people) for count in range(chance.randint(0, most))]
