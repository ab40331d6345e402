"""Points 1 and 3 over whole lines of calls (2 and 4 are looked at with why, whynot, core and clash)."""

import itertools
import random
import unittest

from tests.helper import BOOKS, CLASH, FITS, fitting, last, some_evidence, some_piece, told, verdict


def pairs_of(people):
    return [(x, y) for x in range(people) for y in range(x + 1, people)]


def verdicts(people, evidence):
    """For each two of them what's sure, or [] if evidence clashes."""
    parts = told(people, *evidence, *[verdict(x, y) for x, y in pairs_of(people)])[len(evidence):]
    return [part[0] for part in parts if part != [-8]]


class Point1(unittest.TestCase):
    def test_at_small_numbers(self):
        for seed in range(300):
            people = 2 + seed % 5
            evidence = some_evidence(seed + 5000, people, 10)
            fits = fitting(people, evidence)
            slow = []
            for x, y in pairs_of(people):
                one = [grouping[x] == grouping[y] for grouping in fits]
                slow.append(1 if all(one) else 3 if any(one) else 2)
            with self.subTest(seed=seed):
                self.assertEqual(verdicts(people, evidence), slow if fits else [])
                self.assertEqual(last(people, *evidence, FITS)[0], 1 if fits else 0)
                self.assertEqual(last(people, *evidence, CLASH)[0], 0 if fits else 1)

    def test_every_line_of_three_of_these_about_three(self):
        pieces = [[1, 0, 1], [1, 1, 2], [2, 0, 1], [2, 0, 2], [3, 0, 0, 1], [3, 1, 0, 2], [3, 0, 0, 2], [4, 0, 0, 0],
                  [4, 1, 0, 0], [5, 0, 0, 0], [5, 1, 0, 1], [6, 0, 0, 1, 2], [6, 0, 1, 0, 2], [7, 0, 1, 1, 1, 0, 2]]
        for evidence in itertools.product(pieces, repeat=3):
            fits = fitting(3, evidence)
            slow = [{(True,): 1, (False,): 2, (False, True): 3}[tuple(sorted({g[x] == g[y] for g in fits}))]
                    for x, y in pairs_of(3)] if fits else []
            with self.subTest(evidence=evidence):
                self.assertEqual(verdicts(3, evidence), slow)


class Point3(unittest.TestCase):
    def test_one_more_piece_leaves_sure_what_was_sure(self):
        stayed = 0
        for seed in range(400):
            people = 3 + seed % 6
            chance = random.Random(seed)
            evidence = []
            ahead = verdicts(people, evidence)
            while len(evidence) < 12:
                evidence.append(some_piece(chance, people))
                behind = verdicts(people, evidence)
                if not behind:
                    break
                for was, now in zip(ahead, behind):
                    stayed += was != 3
                    with self.subTest(seed=seed, pieces=len(evidence)):
                        self.assertTrue(was == 3 or was == now)
                ahead = behind
        self.assertGreater(stayed, 1000)

    def test_nothing_fits_again_by_one_more(self):
        for seed in range(200):
            people = 3 + seed % 6
            chance = random.Random(seed)
            evidence = [some_piece(chance, people) for turn in range(12)]
            parts = [last(people, *evidence[:count], FITS)[0] for count in range(13)]
            with self.subTest(seed=seed):
                self.assertEqual(parts, sorted(parts, reverse=True))

    def test_whatever_the_order(self):
        for seed in range(300):
            people = 2 + seed % 8
            evidence = some_evidence(seed, people, 10)
            books, sure = last(people, *evidence, BOOKS), verdicts(people, evidence)
            for turn in range(4):
                order = random.Random(seed * 4 + turn).sample(evidence, len(evidence))
                with self.subTest(seed=seed, turn=turn):
                    self.assertEqual(verdicts(people, order), sure)
                    self.assertEqual(last(people, *order, BOOKS), books)

    def test_every_order_of_a_few(self):
        evidence = [[2, 4, 6], [7, 0, 1, 2, 3, 4, 5], [6, 2, 3, 4, 6], [3, 0, 0, 2], [3, 1, 0, 3]]
        sure = verdicts(7, evidence)
        self.assertEqual(sorted(set(sure)), [2, 3])
        for order in itertools.permutations(evidence):
            with self.subTest(order=order):
                self.assertEqual(verdicts(7, order), sure)


if __name__ == "__main__":
    unittest.main()
