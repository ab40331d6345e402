"""books: the groups that the run leaves."""

import itertools
import random
import unittest

from tests.helper import (BOOKS, both, differ, drop, fitting, if_so, key, last, link, same, single, slow_books,
                          some_evidence, told)


class Groups(unittest.TestCase):
    def test_nobody_spoken_of(self):
        self.assertEqual(last(0, BOOKS), [0])

    def test_one_alone(self):
        self.assertEqual(last(1, BOOKS), [1, 1, 0])

    def test_nobody_joined(self):
        self.assertEqual(last(3, BOOKS), [3, 1, 0, 1, 1, 1, 2])
        self.assertEqual(last(16, differ(0, 1), BOOKS), [16] + [number for x in range(16) for number in (1, x)])

    def test_all_joined(self):
        self.assertEqual(last(16, *[same(x, x - 1) for x in range(15, 0, -1)], BOOKS), [1, 16] + list(range(16)))

    def test_groups_by_their_least_ones_and_each_rising(self):
        self.assertEqual(last(7, same(6, 2), same(5, 1), same(4, 6), same(3, 5), BOOKS),
                         [3, 1, 0, 3, 1, 3, 5, 3, 2, 4, 6])

    def test_two_groups_that_are_joined_later(self):
        self.assertEqual(told(6, same(4, 5), same(2, 3), BOOKS, same(5, 2), BOOKS, drop(2), BOOKS)[2:],
                         [[4, 1, 0, 1, 1, 2, 2, 3, 2, 4, 5], [2], [3, 1, 0, 1, 1, 4, 2, 3, 4, 5], [2],
                          [4, 1, 0, 1, 1, 2, 2, 3, 2, 4, 5]])

    def test_by_every_kind_that_joins(self):
        self.assertEqual(last(10, same(0, 1), key(2, 0, 0), key(3, 0, 0), link(0, 0, 4), link(1, 0, 5),
                              if_so(4, 5, 6, 7), both(6, 7, 2, 3, 8, 9), BOOKS),
                         [5, 2, 0, 1, 2, 2, 3, 2, 4, 5, 2, 6, 7, 2, 8, 9])

    def test_though_evidence_clashes(self):
        self.assertEqual(last(3, same(0, 2), differ(0, 2), single(1, 0, 0), single(1, 0, 1), BOOKS),
                         [2, 2, 0, 2, 1, 1])

    def test_asking_changes_nothing(self):
        self.assertEqual(told(3, same(0, 2), BOOKS, BOOKS)[1:], [[2, 2, 0, 2, 1, 1]] * 2)


class WhateverTheOrder(unittest.TestCase):
    def test_every_order_of_a_few(self):
        evidence = [both(0, 1, 4, 5, 6, 2), if_so(2, 3, 4, 5), link(0, 0, 2), link(1, 0, 3), same(1, 0)]
        for order in itertools.permutations(evidence):
            with self.subTest(order=order):
                self.assertEqual(last(7, *order, BOOKS), [3, 2, 0, 1, 3, 2, 3, 6, 2, 4, 5])

    def test_some_orders_of_many(self):
        for seed in range(300):
            people = 2 + seed % 15
            evidence = some_evidence(seed, people, 30)
            books = last(people, *evidence, BOOKS)
            for turn in range(4):
                order = random.Random(seed * 4 + turn).sample(evidence, len(evidence))
                with self.subTest(seed=seed, turn=turn):
                    self.assertEqual(last(people, *order, BOOKS), books)


class AgainstAllGroupings(unittest.TestCase):
    def test_joined_are_those_who_are_one_in_all(self):
        for seed in range(1000):
            people = 2 + seed % 5
            evidence = some_evidence(seed, people, 10)
            with self.subTest(seed=seed):
                self.assertEqual(last(people, *evidence, BOOKS), slow_books(people, evidence))

    def test_the_books_are_a_grouping_that_fits_if_one_does(self):
        for seed in range(300):
            people = 2 + seed % 5
            evidence = some_evidence(seed, people, 8)
            fits = fitting(people, evidence)
            if fits:
                most = max(len(set(grouping)) for grouping in fits)
                with self.subTest(seed=seed):
                    self.assertEqual(last(people, *evidence, BOOKS)[0], most)


if __name__ == "__main__":
    unittest.main()
