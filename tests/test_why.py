"""why: the joins that a joining needs."""

import unittest

from tests.helper import (RUN, both, check, differ, drop, if_so, key, last, link, same, single, slow_joins, slow_needs,
                          some_evidence, told, why)


class Why(unittest.TestCase):
    def test_x_is_y(self):
        self.assertEqual(told(16, why(0, 0), why(15, 15), same(0, 15), why(0, 0)), [[1, 0], [1, 0], [0], [1, 0]])

    def test_not_joined(self):
        self.assertEqual(told(3, why(0, 1), same(0, 1), why(0, 2), why(2, 1), differ(0, 2), why(0, 2)),
                         [[0], [0], [0], [0], [1], [0]])

    def test_by_one_join(self):
        self.assertEqual(told(2, same(0, 1), why(0, 1), why(1, 0))[1:], [[1, 1, 0]] * 2)

    def test_by_keys(self):
        self.assertEqual(last(3, key(0, 0, 1), key(1, 0, 1), key(2, 0, 1), why(1, 2)), [1, 2, 0, 1])

    def test_a_way_through_several(self):
        pieces = [same(2, 3), same(0, 1), same(4, 5), same(1, 2), same(3, 4), same(5, 6)]
        self.assertEqual(told(7, *pieces, why(0, 4), why(4, 0), why(2, 3), why(1, 3), why(6, 0), why(6, 4))[6:],
                         [[1, 4, 0, 1, 3, 4]] * 2 + [[1, 1, 0], [1, 2, 0, 3], [1, 6, 0, 1, 2, 3, 4, 5], [1, 2, 2, 5]])

    def test_joins_off_the_way_are_not_needed(self):
        self.assertEqual(last(6, same(4, 5), same(0, 1), same(1, 3), same(1, 2), why(0, 2)), [1, 2, 1, 3])

    def test_numbers_are_of_joins_and_not_of_evidence(self):
        self.assertEqual(last(3, key(2, 0, 0), differ(0, 2), same(0, 1), why(0, 1)), [1, 1, 0])


class WhatAJoinNeedsItself(unittest.TestCase):
    def test_two_links(self):
        self.assertEqual(last(6, same(4, 5), link(0, 0, 2), link(1, 0, 3), same(0, 1), why(2, 3)), [1, 2, 1, 2])

    def test_two_links_of_one_and_the_same(self):
        self.assertEqual(last(6, same(4, 5), link(0, 0, 2), link(0, 0, 3), why(2, 3)), [1, 1, 1])

    def test_an_if(self):
        self.assertEqual(last(6, same(4, 5), same(0, 1), if_so(0, 1, 2, 3), why(3, 2)), [1, 2, 1, 2])
        self.assertEqual(last(6, same(4, 5), same(0, 1), if_so(0, 0, 2, 3), why(3, 2)), [1, 1, 2])

    def test_a_both(self):
        pieces = [same(6, 7), same(0, 1), same(2, 3)]
        self.assertEqual(last(8, *pieces, both(0, 1, 2, 3, 4, 5), why(4, 5)), [1, 3, 1, 2, 3])
        self.assertEqual(last(8, *pieces, both(0, 0, 2, 3, 4, 5), why(4, 5)), [1, 2, 2, 3])
        self.assertEqual(last(8, *pieces, both(0, 1, 2, 2, 4, 5), why(4, 5)), [1, 2, 1, 3])
        self.assertEqual(last(8, *pieces, both(7, 7, 2, 2, 4, 5), why(4, 5)), [1, 1, 3])

    def test_through_several_steps(self):
        pieces = [key(0, 0, 1), same(10, 11), key(1, 0, 1), link(0, 1, 2), link(1, 1, 3), if_so(2, 3, 4, 5),
                  both(4, 5, 8, 9, 6, 7), same(8, 9)]
        self.assertEqual(told(12, *pieces, RUN, why(6, 7), why(4, 5), why(2, 3))[8:],
                         [[6, 0, 2, 0, 1, 1, -1, 10, 11, 3, 4, 2, 3, 5, -1, 4, 5, 7, -1, 8, 9, 6, -1, 6, 7],
                          [1, 5, 0, 2, 3, 4, 5], [1, 3, 0, 2, 3], [1, 2, 0, 2]])

    def test_a_joining_that_two_need_is_told_once(self):
        self.assertEqual(last(8, same(0, 1), if_so(0, 1, 2, 3), if_so(0, 1, 3, 4), why(2, 4)), [1, 3, 0, 1, 2])
        self.assertEqual(last(8, same(0, 1), both(0, 1, 1, 0, 2, 3), why(2, 3)), [1, 2, 0, 1])

    def test_a_chain_of_fifteen(self):
        pieces = [if_so(x, x + 1, x + 1, x + 2) for x in range(13, -1, -1)] + [same(0, 1)]
        self.assertEqual(told(16, *pieces, why(14, 15), why(0, 15))[15:], [[1, 15] + list(range(15))] * 2)

    def test_the_way_that_the_run_made_though_a_shorter_one_is_told(self):
        self.assertEqual(told(3, same(0, 1), same(1, 2), same(0, 2), RUN, why(0, 2))[3:],
                         [[2, 0, -1, 0, 1, 1, -1, 1, 2], [1, 2, 0, 1]])

    def test_though_evidence_clashes(self):
        pieces = [differ(0, 2), same(0, 1), same(1, 2), single(0, 0, 1), single(0, 0, 2)]
        self.assertEqual(told(4, *pieces, why(0, 2), why(3, 3), why(0, 3))[5:], [[1, 2, 0, 1], [1, 0], [0]])

    def test_behind_a_drop(self):
        self.assertEqual(told(4, same(2, 3), same(0, 1), same(1, 2), why(0, 2), drop(0), why(0, 2), why(0, 3))[3:],
                         [[1, 2, 1, 2], [2], [1, 2, 0, 1], [0]])


class AgainstTheDefinition(unittest.TestCase):
    def test_at_many_lines(self):
        for seed in range(400):
            people = 2 + seed % 15
            evidence = some_evidence(seed, people, 30)
            made, group = slow_joins(people, evidence)
            pairs = [(x, (x * 5 + seed) % people) for x in range(people)]
            for (x, y), part in zip(pairs, told(people, *evidence, *[why(*pair) for pair in pairs])[len(evidence):]):
                needed = slow_needs(evidence, made, x, y) if y in group[x] else None
                with self.subTest(seed=seed, x=x, y=y):
                    self.assertEqual(part, [0] if needed is None else [1, len(needed)] + needed)

    def test_check_takes_what_is_told_and_nothing_less(self):
        proofs = 0
        for seed in range(300):
            people = 4 + seed % 13
            evidence = some_evidence(seed, people, 30)
            made = slow_joins(people, evidence)[0]
            for x in range(people):
                y = (x * 3 + seed) % people
                part = last(people, *evidence, why(x, y))
                if part[0] == 1:
                    row = [number for join in part[2:] for number in made[join][:2]]
                    fewer = [row[:place] + row[place + 2:] for place in range(0, len(row), 2)]
                    parts = told(people, *evidence, check(x, y, *row), *[check(x, y, *some) for some in fewer])
                    proofs += len(row) > 4
                    with self.subTest(seed=seed, x=x, y=y):
                        self.assertEqual(parts[len(evidence)], [1])
                        self.assertNotIn([1], parts[len(evidence) + 1:])
        self.assertGreater(proofs, 100)


if __name__ == "__main__":
    unittest.main()
