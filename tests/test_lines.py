"""Whole lines: every call in one line number by number, many lines against a second reading, and the longest."""

import random
import unittest

from personbooks.books import answers
from tests.helper import (BOOKS, CLASH, FITS, RUN, TOLD, check, core, cut, differ, drop, if_so, key, known, line, link,
                          linked, person, same, single, slow_answer, some_piece, some_question, value, verdict, ways,
                          why, whynot)


class OneLine(unittest.TestCase):
    def test_number_by_number(self):
        calls = line(person(), person(), person(), person(), person(),
                     link(0, 1, 2), link(1, 1, 3), key(0, 0, 7), key(1, 0, 7), differ(2, 4), single(3, 2, 9),
                     verdict(0, 1), verdict(2, 4), verdict(0, 4), verdict(5, 0),
                     RUN, why(2, 3), why(0, 4), whynot(3, 4), whynot(0, 4), whynot(0, 0),
                     check(2, 3, 2, 3, 0, 1), check(2, 3, 0, 1), check(2, 3, 2, 3), check(2, 3, 2), check(2, 2),
                     core(3, 2), core(0, 4), CLASH, FITS, BOOKS,
                     known(4, 2, 3), known(3, 2, 3), known(5, 3, 4), known(31, 3, 4),
                     linked(1, 1), linked(1, 0), value(2, 2), value(0, 2), TOLD, ways(0, 4),
                     same(3, 4), verdict(0, 1), FITS, CLASH, known(6, 3, 4), known(7, 3, 4), ways(0, 4), drop(4),
                     verdict(2, 4), TOLD)
        self.assertEqual(answers(calls), [
            1, 0, 1, 1, 1, 2, 1, 3, 1, 4,
            1, 0, 1, 1, 1, 2, 1, 3, 1, 4, 1, 5,
            1, 1, 1, 2, 1, 3, 1, -4,
            9, 2, 2, 3, 0, 1, 0, 1, 2, 3,
            4, 1, 2, 0, 1,
            1, 0,
            10, 1, 4, -1, 3, 2, 3, 0, 1, 6, -1,
            1, 0,
            1, -5,
            1, 1, 2, 0, 0, 2, 0, 1, 1, -2, 1, 1,
            6, 1, 4, 0, 1, 2, 3,
            1, 0,
            1, 0,
            1, 1,
            9, 3, 2, 0, 1, 2, 2, 3, 1, 4,
            1, 1, 1, 3, 1, 2, 1, -1,
            2, 1, 2, 1, 0, 2, 1, 9, 1, 0,
            25, 5, 6, 3, 0, 1, 2, 3, 1, 1, 3, 4, 0, 0, 7, 4, 1, 0, 7, 2, 2, 4, 5, 3, 2, 9,
            2, 3, 1,
            1, 6,
            1, -8,
            3, 0, 4, -1,
            8, 1, 6, 0, 1, 2, 3, 4, 6,
            1, 2, 1, 0,
            2, 0, 0,
            1, 6,
            1, 1,
            25, 5, 6, 3, 0, 1, 2, 3, 1, 1, 3, 4, 0, 0, 7, 4, 1, 0, 7, 5, 3, 2, 9, 1, 3, 4,
        ])

    def test_every_call_as_the_first(self):
        self.assertEqual([answers(call) for call in (verdict(0, 0), why(0, 0), whynot(0, 0), check(0, 0), core(0, 0),
                                                     known(0, 0, 0), linked(0, 0), value(0, 0), ways(0, 0), CLASH,
                                                     TOLD)],
                         [[1, -4]] * 9 + [[1, 0], [2, 0, 0]])

    def test_how_many_pieces_count_is_no_lists_length(self):
        self.assertEqual(cut(answers(line(person(), person(), same(0, 1), known(2, 0, 1), known(0, 0, 1), BOOKS))),
                         [[0], [1], [0], [1], [3], [1, 2, 0, 1]])

    def test_what_stands_behind_a_list_is_read(self):
        self.assertEqual(cut(answers(line(person(), check(0, 0, *[9] * 60), BOOKS, check(0, 0, 9), BOOKS, check(0, 0),
                                          BOOKS, check(0, 16, 22, 22, 22), BOOKS))),
                         [[0], [0, 0], [1, 1, 0], [-2], [1, 1, 0], [1], [1, 1, 0], [-1], [1, 1, 0]])


class AgainstASecondReading(unittest.TestCase):
    def some_line(self, seed):
        """A line of all calls, with what each of them should answer."""
        chance = random.Random(seed)
        people, evidence, calls, expected = 0, [], [], []
        most = chance.choice([3, 5, 7, 7, 16])
        few = 3
        while len(calls) < 60:
            dice = chance.random()
            if people < 2 or (people < most and dice < 0.15):
                calls.append(person())
                expected.append([people])
                people += 1
            elif dice < 0.4 and len(evidence) < 30:
                evidence.append(some_piece(chance, people))
                calls.append(evidence[-1])
                expected.append([len(evidence) - 1])
            elif dice < 0.5 and evidence:
                calls.append(drop(chance.randrange(len(evidence))))
                evidence.pop(calls[-1][1])
                expected.append([len(evidence)])
            else:
                call = some_question(chance, people, len(evidence))
                if dice > 0.97 and few:
                    few -= 1
                    call = chance.choice([core(0, people - 1), CLASH, ways(0, people - 1)])
                calls.append(call)
                expected.append(slow_answer(people, evidence, call))
        return calls, expected

    def test_many_lines(self):
        seen = set()
        for seed in range(250):
            calls, expected = self.some_line(seed)
            with self.subTest(seed=seed):
                self.assertEqual(cut(answers(line(*calls))), expected)
            seen.update((call[0], part[0] if part[0] < 2 else 2) for call, part in zip(calls, expected))
        self.assertGreaterEqual(seen, {(12, 1), (12, 2), (12, -8), (13, 0), (13, 1), (14, 0), (14, 1), (14, -5),
                                       (14, -8), (15, 0), (15, 1), (16, 0), (16, 1), (17, 0), (17, 1), (18, 0),
                                       (18, 1), (18, 2), (19, 0), (19, 1), (20, 0), (20, 1), (21, 2), (22, 0), (22, 2),
                                       (22, -9)})


class TheLongest(unittest.TestCase):
    def longest(self):
        """200 calls: 16 persons, 30 pieces, and 20 of core, clash and ways (some ahead of the eighth person)."""
        pieces = [if_so(x, x + 1, x + 1, x + 2) for x in range(13, -1, -1)]
        pieces += [link(x, 0, x) for x in range(7)] + [link(x, 0, x + 8) for x in range(6)]
        pieces += [same(0, 1), differ(0, 15), single(0, 0, 1)]
        calls = [person()] * 7 + [ways(0, 6), ways(1, 1), ways(2, 3)] + [person()] * 9 + pieces
        calls += [core(0, 15), CLASH] * 7 + [core(14, 15), CLASH, ways(0, 15)]
        turns = [why(0, 15), known(28, 0, 15), known(30, 0, 15), FITS, RUN, BOOKS, verdict(0, 15), whynot(0, 15),
                 check(0, 15, *[number for e in range(30) for number in (e, -1)]), linked(0, 0), value(15, 0), TOLD]
        while len(calls) < 200:
            calls.append(turns[len(calls) % len(turns)])
        return calls

    def expected(self, calls):
        people, evidence, parts, known_parts = 0, [], [], {}
        for call in calls:
            if call == person():
                people += 1
                parts.append([people - 1])
            elif 1 <= call[0] <= 7:
                evidence.append(call)
                parts.append([len(evidence) - 1])
            else:
                asked = (people, len(evidence), tuple(call))
                if asked not in known_parts:
                    known_parts[asked] = slow_answer(people, evidence, call)
                parts.append(known_parts[asked])
        return parts

    def test_it(self):
        calls = self.longest()
        self.assertEqual((len(calls), sum(call[0] in (16, 17, 22) for call in calls)), (200, 20))
        handed = line(*calls)
        copy = list(handed)
        given = answers(handed)
        self.assertEqual(handed, copy)
        self.assertEqual(answers(handed), given)
        self.assertEqual(cut(given), self.expected(calls))
        self.assertEqual(len(cut(given)), 200)

    def test_twenty_times_ways(self):
        calls = [person()] * 7 + [link(x % 7, 0, x % 7) for x in range(30)] + [ways(0, 6)] * 20 + [TOLD] * 143
        self.assertEqual(cut(answers(line(*calls)))[37:57], [[877, 203]] * 20)


if __name__ == "__main__":
    unittest.main()
