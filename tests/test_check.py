"""check: whether pairs that are told are joins, and join x and y."""

import random
import unittest

from tests.helper import (FAR, RUN, TOLD, both, check, differ, drop, if_so, key, last, link, same, single, slow_check,
                          slow_joins, some_evidence, told)


class Taken(unittest.TestCase):
    def test_an_empty_list(self):
        self.assertEqual(told(2, check(0, 0), check(0, 1), same(0, 1), check(1, 1), check(0, 1)),
                         [[1], [0, 0], [0], [1], [0, 0]])

    def test_by_a_same(self):
        self.assertEqual(told(2, same(0, 1), check(0, 1, 0, -1), check(1, 0, 0, -1), check(0, 0, 0, -1))[1:], [[1]] * 3)

    def test_by_two_keys(self):
        self.assertEqual(last(2, key(0, 0, 7), differ(0, 1), key(1, 0, 7), check(0, 1, 0, 2)), [1])

    def test_by_two_links(self):
        pieces = [link(0, 0, 2), link(1, 0, 3), same(1, 0)]
        self.assertEqual(told(4, *pieces, check(2, 3, 2, -1, 0, 1), check(2, 3, 0, 1), check(2, 3, 0, 1, 2, -1))[3:],
                         [[1], [0, 0], [0, 0]])
        self.assertEqual(last(3, link(0, 0, 1), link(0, 0, 2), check(2, 1, 0, 1)), [1])

    def test_by_an_if(self):
        pieces = [if_so(0, 1, 2, 3), same(1, 0)]
        self.assertEqual(told(4, *pieces, check(2, 3, 1, -1, 0, -1), check(2, 3, 0, -1), check(2, 3, 0, -1, 1, -1))[2:],
                         [[1], [0, 0], [0, 0]])
        self.assertEqual(last(4, if_so(1, 1, 2, 3), check(2, 3, 0, -1)), [1])

    def test_by_a_both(self):
        pieces = [both(0, 1, 2, 3, 4, 5), same(1, 0), same(3, 2)]
        self.assertEqual(told(6, *pieces, check(4, 5, 1, -1, 2, -1, 0, -1), check(4, 5, 2, -1, 1, -1, 0, -1),
                              check(4, 5, 1, -1, 0, -1), check(4, 5, 2, -1, 0, -1), check(4, 5, 0, -1))[3:],
                         [[1], [1], [0, 1], [0, 1], [0, 0]])

    def test_needless_joins_and_any_order(self):
        self.assertEqual(last(6, same(4, 5), same(0, 1), same(1, 2), check(0, 2, 2, -1, 0, -1, 1, -1)), [1])

    def test_joins_that_the_run_does_not_make(self):
        pieces = [same(0, 1), same(1, 2), same(0, 2)]
        self.assertEqual(told(3, *pieces, RUN, check(0, 2, 2, -1))[3:], [[2, 0, -1, 0, 1, 1, -1, 1, 2], [1]])

    def test_of_those_who_are_joined_already(self):
        pieces = [same(0, 1), same(1, 0), key(0, 0, 0), key(1, 0, 0), same(1, 2)]
        self.assertEqual(last(3, *pieces, check(0, 2, 0, -1, 0, -1, 1, -1, 2, 3, 4, -1)), [1])

    def test_of_one_and_the_same(self):
        pieces = [key(0, 0, 0), key(0, 0, 0), link(1, 0, 2), link(1, 0, 2), same(0, 1)]
        self.assertEqual(told(3, *pieces, check(0, 1, 0, 1, 2, 3, 4, -1), check(2, 2, 0, 1), check(0, 1, 0, 1, 2, 3))[5:],
                         [[1], [1], [0, 2]])

    def test_sixty_numbers(self):
        pieces = [same(0, 1)] * 29 + [same(1, 2)]
        row = [number for e in range(30) for number in (e, -1)]
        self.assertEqual(told(3, *pieces, check(0, 2, *row), check(0, 2, *row[:-2]), check(0, 2, *row[:-1], 0))[30:],
                         [[1], [0, 29], [0, 29]])
        self.assertEqual(last(4, *pieces, check(0, 3, *row)), [0, 30])
        self.assertEqual(last(3, same(0, 1), check(0, 1, *[0, -1] * 30)), [1])

    def test_though_evidence_clashes(self):
        self.assertEqual(last(2, differ(0, 1), same(0, 1), check(0, 1, 1, -1)), [1])


class NoJoin(unittest.TestCase):
    pieces = (same(0, 1), key(0, 0, 0), key(1, 0, 0), link(0, 0, 2), link(0, 0, 3), differ(0, 4), single(0, 0, 1),
              single(1, 0, 1), if_so(0, 0, 2, 3), both(0, 0, 1, 1, 2, 3), link(0, 1, 3), key(1, 1, 0), key(1, 0, 1))

    def refused(self, *pair):
        self.assertEqual(last(5, *self.pieces, check(0, 1, 0, -1, *pair, 0, -1)), [0, 1], pair)
        self.assertEqual(last(5, *self.pieces, check(0, 0, *pair)), [0, 0], pair)

    def test_evidence_that_is_not_there(self):
        for e in (-1, -2, -13, 13, 14, 29, 30, FAR, -FAR):
            self.refused(e, -1)
            self.refused(e, 2)
        for e2 in (-2, -11, -12, 13, 14, 29, 30, FAR, -FAR):
            self.refused(1, e2)
            self.refused(0, e2)
            self.refused(FAR, e2)

    def test_e2_not_above_e(self):
        self.refused(2, 1)
        self.refused(1, 1)
        self.refused(4, 3)
        self.refused(3, 3)

    def test_alone_where_it_is_by_two(self):
        self.refused(1, -1)
        self.refused(3, -1)

    def test_two_where_it_is_by_one(self):
        for e in (0, 8, 9):
            for e2 in range(13):
                self.refused(e, e2)

    def test_kinds_that_join_nobody(self):
        for e in (5, 6, 7):
            for e2 in range(-1, 13):
                self.refused(e, e2)

    def test_two_that_do_not_belong_together(self):
        for e, e2 in ((1, 3), (1, 11), (1, 12), (2, 11), (2, 12), (3, 10), (4, 10), (1, 6), (3, 11), (11, 12)):
            self.refused(e, e2)

    def test_which_of_them_are_joins(self):
        there = [(e, e2) for e in range(-2, 15) for e2 in range(-2, 15)
                 if last(5, *self.pieces, check(4, 4, e, e2)) == [1]]
        self.assertEqual(there, [(0, -1), (1, 2), (3, 4), (8, -1), (9, -1)])

    def test_the_place_of_the_first(self):
        self.assertEqual(told(3, same(0, 1), same(1, 2), check(0, 2, 0, -1, 1, -1, 2, -1, 9, 9), check(0, 2, 5, 5, 0, -1),
                              check(0, 2, 0, -1, 1, 0, 0, 0), check(0, 2, 0, -1))[2:], [[0, 2], [0, 0], [0, 1], [0, 1]])

    def test_all_are_but_x_and_y_are_not_joined(self):
        self.assertEqual(told(4, same(0, 1), same(2, 3), same(1, 2), check(0, 3, 0, -1, 1, -1), check(0, 3, 0, -1),
                              check(0, 3, 0, -1, 0, -1, 0, -1))[3:], [[0, 2], [0, 1], [0, 3]])

    def test_behind_a_drop(self):
        self.assertEqual(told(2, key(0, 0, 0), same(0, 1), check(0, 1, 1, -1), drop(0), check(0, 1, 1, -1),
                              check(0, 1, 0, -1))[2:], [[1], [1], [0, 0], [1]])


class Odd(unittest.TestCase):
    def test_an_odd_number_of_numbers(self):
        for count in (1, 3, 59):
            with self.subTest(count=count):
                self.assertEqual(last(2, same(0, 1), check(0, 1, *[0, -1] * (count // 2), 0)), [-2])
                self.assertEqual(last(2, same(0, 1), check(1, 1, *[FAR] * count)), [-2])

    def test_what_stands_behind_it_is_read(self):
        self.assertEqual(told(2, check(0, 1, 5), check(0, 1, 5, 5, 5), TOLD), [[-2], [-2], [2, 0]])


class AgainstTheDefinition(unittest.TestCase):
    def test_at_many_lists(self):
        taken = [0, 0, 0]
        for seed in range(1500):
            chance = random.Random(seed)
            people = 2 + seed % 9
            evidence = some_evidence(seed, people, 20)
            # Joins of the run with some left out, some twice and some that are none among them.
            pairs = [join[:2] for join in slow_joins(people, evidence)[0] if chance.random() < 0.95]
            for turn in range(chance.choice([0, 0, 1, 1, 2])):
                pair = (chance.randint(-1, len(evidence)), chance.choice([-1, chance.randint(-2, len(evidence))]))
                pairs.insert(chance.randint(0, len(pairs)), chance.choice(pairs + [pair]))
            row = [number for pair in pairs for number in pair]
            x, y = chance.randrange(people), chance.randrange(people)
            part = last(people, *evidence, check(x, y, *row))
            taken[0 if part == [1] else 1 if part[1] == len(pairs) else 2] += 1
            with self.subTest(seed=seed):
                self.assertEqual(part, slow_check(people, evidence, x, y, row))
        self.assertGreater(min(taken), 100)


if __name__ == "__main__":
    unittest.main()
