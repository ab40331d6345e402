"""What the tests share: calls by name, answers cut call by call, and a second, slower reading of the document."""

import itertools
import random

from personbooks.books import answers

FAR = 10 ** 18
GREATEST_VALUE = 10 ** 12


def person():
    return [0]


def same(x, y):
    return [1, x, y]


def differ(x, y):
    return [2, x, y]


def link(x, f, y):
    return [3, x, f, y]


def key(x, k, w):
    return [4, x, k, w]


def single(x, k, w):
    return [5, x, k, w]


def if_so(x, y, u, v):
    return [6, x, y, u, v]


def both(x, y, p, q, u, v):
    return [7, x, y, p, q, u, v]


def drop(e):
    return [8, e]


def verdict(x, y):
    return [12, x, y]


def why(x, y):
    return [13, x, y]


def whynot(x, y):
    return [14, x, y]


def check(x, y, *pairs):
    return [15, x, y, len(pairs)] + list(pairs)


def core(x, y):
    return [16, x, y]


def known(n, x, y):
    return [18, n, x, y]


def linked(x, f):
    return [19, x, f]


def value(x, k):
    return [20, x, k]


def ways(x, y):
    return [22, x, y]


FITS = [9]
RUN = [10]
BOOKS = [11]
CLASH = [17]
TOLD = [21]


def line(*calls):
    """The calls, one behind another, as they are handed in."""
    return [number for call in calls for number in call]


def cut(given):
    """What is given back, cut into one list for each call."""
    parts = []
    place = 0
    while place < len(given):
        count = given[place]
        if count < 1 or place + 1 + count > len(given):
            raise AssertionError(f"no such count: {count} at {place}")
        parts.append(given[place + 1:place + 1 + count])
        place += 1 + count
    return parts


def ask(*calls):
    """The answers to these calls, one list for each."""
    return cut(answers(line(*calls)))


def told(people, *calls):
    """The answers to these calls behind as many persons."""
    return ask(*([person()] * people), *calls)[people:]


def last(people, *calls):
    """The answer to the last of these calls behind as many persons."""
    return told(people, *calls)[-1]


def changed(call, place, number):
    """The call with another number at this place (from 0, its own number not counted)."""
    return call[:place + 1] + [number] + call[place + 2:]


def places(good):
    """Each place of each of these calls, with the letter that tells what stands there."""
    return [(call, place, letter) for call, letters in good for place, letter in enumerate(letters)]


def groupings(people):
    """Every way to part as many into persons: for each of them the number of a person."""
    if people == 0:
        yield ()
        return
    for shorter in groupings(people - 1):
        for label in range(len(set(shorter)) + 1):
            yield shorter + (label,)


def is_so(piece, grouping):
    """Whether one piece by itself is so; links, keys and singles are looked at two by two."""
    kind, numbers = piece[0], piece[1:]
    one = [grouping[a] == grouping[b] for a, b in zip(numbers[::2], numbers[1::2])] if kind in (1, 2, 6, 7) else []
    if kind == 1:
        return one[0]
    if kind == 2:
        return not one[0]
    if kind in (6, 7):
        return one[-1] or not all(one[:-1])
    return True


def are_so(piece, later, grouping):
    """Whether two pieces are so beside one another."""
    if piece[0] != later[0] or piece[0] not in (3, 4, 5) or piece[2] != later[2]:
        return True
    one = grouping[piece[1]] == grouping[later[1]]
    if piece[0] == 3:
        return not one or grouping[piece[3]] == grouping[later[3]]
    if piece[0] == 4:
        return one or piece[3] != later[3]
    return not one or piece[3] == later[3]


def fitting(people, evidence):
    """Every grouping that fits."""
    return [grouping for grouping in groupings(people)
            if all(is_so(piece, grouping) for piece in evidence)
            and all(are_so(a, b, grouping) for a, b in itertools.combinations(evidence, 2))]


def slow_books(people, evidence):
    """The groups of those who are one in every grouping that what can join (no differ, no single) fits."""
    fits = fitting(people, [piece for piece in evidence if piece[0] not in (2, 5)])
    found = []
    for x in range(people):
        group = [y for y in range(people) if all(grouping[x] == grouping[y] for grouping in fits)]
        if group not in found:
            found.append(group)
    return [len(found)] + [number for group in found for number in [len(group)] + group]


def slow_joins(people, evidence):
    """The joins, each the least of all that there are then, and for each who's spoken of their group."""
    group = {x: frozenset([x]) for x in range(people)}
    made = []
    while True:
        there = []
        for e, piece in enumerate(evidence):
            numbers = piece[1:]
            ahead = list(zip(numbers[::2], numbers[1::2]))
            if piece[0] in (1, 6, 7) and all(b in group[a] for a, b in ahead[:-1]):
                there.append((e, -1) + ahead[-1])
            for e2 in range(e + 1, len(evidence)):
                other = evidence[e2]
                if piece[0] == other[0] == 4 and piece[2:] == other[2:]:
                    there.append((e, e2, piece[1], other[1]))
                if piece[0] == other[0] == 3 and piece[2] == other[2] and other[1] in group[piece[1]]:
                    there.append((e, e2, piece[3], other[3]))
        there = [join for join in there if join[3] not in group[join[2]]]
        if not there:
            return made, group
        first = min(there)
        made.append(first)
        whole = group[first[2]] | group[first[3]]
        for x in whole:
            group[x] = whole


def slow_run(people, evidence):
    """How many joins, then each."""
    made = slow_joins(people, evidence)[0]
    return [len(made)] + [number for join in made for number in join]


def slow_clash(people, evidence):
    """The least of all clashes behind the slow run, or None."""
    group = slow_joins(people, evidence)[1]
    there = [(e, -1) for e, piece in enumerate(evidence) if piece[0] == 2 and piece[1] in group[piece[2]]]
    for (e, piece), (e2, other) in itertools.combinations(enumerate(evidence), 2):
        if piece[0] == other[0] == 5 and piece[2] == other[2] and piece[3] != other[3] and piece[1] in group[other[1]]:
            there.append((e, e2))
    return min(there) if there else None


def clash_two(evidence, clash):
    """The two of whom this clash is: a differ's two, or both singles' x."""
    e, e2 = clash
    return tuple(evidence[e][1:3]) if e2 == -1 else (evidence[e][1], evidence[e2][1])


def slow_verdict(people, evidence, x, y):
    """1, 2 or 3 by all groupings that fit, 0 if none does."""
    one = {grouping[x] == grouping[y] for grouping in fitting(people, evidence)}
    return {(): 0, (True,): 1, (False,): 2, (False, True): 3}[tuple(sorted(one))]


def quick_verdict(people, evidence, x, y):
    """1, 2 or 3 by the slow run, 0 if evidence clashes; for as many as all groupings are too many of."""
    if slow_clash(people, evidence):
        return 0
    if y in slow_joins(people, evidence)[1][x]:
        return 1
    return 2 if slow_clash(people, evidence + [same(x, y)]) else 3


def slow_needs(evidence, made, x, y):
    """The numbers of the joins that the joining of x and y needs, as they stand in the definition."""
    def way(here, goal, past):
        if here == goal:
            return []
        for number, join in enumerate(made):
            if number not in past and here in join[2:]:
                on = way(join[3] if here == join[2] else join[2], goal, past + [number])
                if on is not None:
                    return [number] + on
        return None

    found = set()
    for number in way(x, y, []):
        e, e2 = made[number][:2]
        numbers = evidence[e][1:]
        ahead = list(zip(numbers[::2], numbers[1::2]))[:-1] if e2 == -1 else []
        if evidence[e][0] == 3:
            ahead = [(evidence[e][1], evidence[e2][1])]
        found.add(number)
        for a, b in ahead:
            found.update(slow_needs(evidence, made[:number], a, b))
    return sorted(found)


def slow_whynot(people, evidence, x, y):
    """What whynot answers where evidence doesn't clash, and x isn't y."""
    evidence = evidence + [same(x, y)]
    clash = slow_clash(people, evidence)
    if not clash:
        return [0]
    made = slow_joins(people, evidence)[0]
    needed = slow_needs(evidence, made, *clash_two(evidence, clash))
    return [1] + list(clash) + [len(needed)] + [part for number in needed for part in made[number][:2]]


def slow_check(people, evidence, x, y, row):
    """What check answers to an even number of numbers."""
    group = {a: {a} for a in range(people)}
    pairs = list(zip(row[::2], row[1::2]))
    for place, (e, e2) in enumerate(pairs):
        there = range(len(evidence))
        two = None
        if e in there and e2 == -1 and evidence[e][0] in (1, 6, 7):
            numbers = evidence[e][1:]
            if all(b in group[a] for a, b in zip(numbers[:-2:2], numbers[1:-2:2])):
                two = numbers[-2:]
        if e in there and e2 in there and e2 > e and evidence[e][0] == evidence[e2][0]:
            if evidence[e][0] == 4 and evidence[e][2:] == evidence[e2][2:]:
                two = (evidence[e][1], evidence[e2][1])
            if evidence[e][0] == 3 and evidence[e][2] == evidence[e2][2] and evidence[e][1] in group[evidence[e2][1]]:
                two = (evidence[e][3], evidence[e2][3])
        if two is None:
            return [0, place]
        whole = group[two[0]] | group[two[1]]
        for a in whole:
            group[a] = whole
    return [1] if y in group[x] else [0, len(pairs)]


def slow_core(evidence, is_so):
    """1 and the core as a list, or 0 if it isn't so by all evidence."""
    if not is_so(evidence):
        return [0]
    gone = set()
    for e in reversed(range(len(evidence))):
        if is_so([piece for number, piece in enumerate(evidence) if number != e and number not in gone]):
            gone.add(e)
    left = [e for e in range(len(evidence)) if e not in gone]
    return [1, len(left)] + left


def slow_linked(people, evidence, x, f):
    group = slow_joins(people, evidence)[1]
    found = [y for piece in evidence if piece[0] == 3 and piece[2] == f and piece[1] in group[x]
             for y in group[piece[3]]]
    return [1, min(found)] if found else [0]


def slow_value(people, evidence, x, k):
    group = slow_joins(people, evidence)[1]
    found = [piece[3] for piece in evidence if piece[0] == 5 and piece[2] == k and piece[1] in group[x]]
    return [1] + found[:1] if found else [0]


def slow_ways(people, evidence, x, y):
    fits = fitting(people, evidence)
    return [len(fits), sum(grouping[x] == grouping[y] for grouping in fits)]


def slow_answer(people, evidence, call):
    """What a call from 9 on answers if nothing of range, -4 or -2 refuses it."""
    kind, numbers = call[0], call[1:]
    if kind in (12, 14):
        if kind == 14 and numbers[0] == numbers[1]:
            return [-5]
        if slow_clash(people, evidence):
            return [-8]
    if kind == 13:
        made, group = slow_joins(people, evidence)
        if numbers[1] not in group[numbers[0]]:
            return [0]
        needed = slow_needs(evidence, made, *numbers)
        return [1, len(needed)] + needed
    if kind == 22 and people > 7:
        return [-9]
    return {
        9: lambda: [0, *slow_clash(people, evidence)] if slow_clash(people, evidence) else [1],
        10: lambda: slow_run(people, evidence),
        11: lambda: run_books(people, evidence),
        12: lambda: [quick_verdict(people, evidence, *numbers)],
        14: lambda: slow_whynot(people, evidence, *numbers),
        15: lambda: slow_check(people, evidence, *numbers[:2], numbers[3:]),
        16: lambda: slow_core(evidence, lambda some: numbers[1] in slow_joins(people, some)[1][numbers[0]]),
        17: lambda: slow_core(evidence, lambda some: slow_clash(people, some) is not None),
        18: lambda: [quick_verdict(people, evidence[:numbers[0]], *numbers[1:])],
        19: lambda: slow_linked(people, evidence, *numbers),
        20: lambda: slow_value(people, evidence, *numbers),
        21: lambda: [people, len(evidence)] + [number for piece in evidence for number in piece],
        22: lambda: slow_ways(people, evidence, *numbers),
    }[kind]()


def run_books(people, evidence):
    """The groups that the slow run leaves."""
    found = sorted({tuple(sorted(group)) for group in slow_joins(people, evidence)[1].values()})
    return [len(found)] + [number for group in found for number in (len(group),) + group]


def slow_fits(people, evidence):
    """1, or 0 and the least of all clashes between what is told and the slow books."""
    books = slow_books(people, evidence)
    label = {}
    place = 1
    while place < len(books):
        for x in books[place + 1:place + 1 + books[place]]:
            label[x] = place
        place += 1 + books[place]
    there = [(e, -1) for e, piece in enumerate(evidence) if piece[0] == 2 and label[piece[1]] == label[piece[2]]]
    for (e, piece), (e2, other) in itertools.combinations(enumerate(evidence), 2):
        if piece[0] == other[0] == 5 and piece[2] == other[2] and piece[3] != other[3]:
            if label[piece[1]] == label[other[1]]:
                there.append((e, e2))
    return [0] + list(min(there)) if there else [1]


def some_piece(chance, people):
    """A piece of evidence that nothing refuses, of few keys and values, so that they meet often."""
    def two():
        return chance.sample(range(people), 2)

    def anyone():
        return chance.randrange(people)

    kind = chance.choice([1, 2, 3, 3, 3, 4, 4, 5, 5, 6, 6, 7, 7])
    if kind in (1, 2):
        return [kind] + two()
    if kind == 3:
        return [kind, anyone(), chance.randrange(2), anyone()]
    if kind in (4, 5):
        return [kind, anyone(), chance.randrange(2), chance.randrange(3)]
    if kind == 6:
        return [kind, anyone(), anyone()] + two()
    return [kind, anyone(), anyone(), anyone(), anyone()] + two()


def some_question(chance, people, pieces):
    """A call from 9 to 22 (not 16, 17 or 22, which a line may have few of) about some who are spoken of."""
    def anyone():
        return chance.randrange(people)

    kind = chance.choice([9, 10, 11, 12, 12, 13, 13, 14, 14, 15, 15, 15, 18, 18, 19, 20, 21])
    if kind in (9, 10, 11, 21):
        return [kind]
    if kind == 15:
        row = [number for turn in range(chance.randrange(8))
               for number in (chance.randint(-1, pieces), chance.choice([-1, -1, chance.randint(-2, pieces + 1)]))]
        return check(anyone(), anyone(), *row)
    if kind == 18:
        return known(chance.randint(0, 30), anyone(), anyone())
    if kind in (19, 20):
        return [kind, anyone(), chance.randrange(3)]
    return [kind, anyone(), anyone()]


def some_evidence(seed, people, most):
    """Pieces that are the same for the same seed."""
    chance = random.Random(seed)
    return [some_piece(chance, people) for count in range(chance.randint(0, most))]
