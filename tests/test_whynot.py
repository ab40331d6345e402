"""whynot: the clash that there'd be if two were one, and the joins that it needs."""

import unittest

from tests.helper import (FITS, RUN, TOLD, both, check, clash_two, differ, drop, if_so, key, last, link, same, single,
                          slow_clash, slow_verdict, slow_whynot, some_evidence, told, whynot)


class ByADiffer(unittest.TestCase):
    def test_of_the_two_themselves(self):
        self.assertEqual(told(2, differ(0, 1), whynot(0, 1), whynot(1, 0))[1:], [[1, 0, -1, 1, 1, -1]] * 2)

    def test_of_others_who_are_joined_to_them(self):
        self.assertEqual(last(4, differ(0, 3), same(0, 1), same(2, 3), whynot(1, 2)),
                         [1, 0, -1, 3, 1, -1, 2, -1, 3, -1])

    def test_of_those_whom_an_if_would_join(self):
        self.assertEqual(last(4, if_so(0, 1, 2, 3), differ(2, 3), whynot(0, 1)), [1, 1, -1, 2, 2, -1, 0, -1])

    def test_of_those_whom_links_would_join(self):
        self.assertEqual(last(6, link(0, 0, 2), same(4, 5), differ(2, 3), link(1, 0, 3), whynot(1, 0)),
                         [1, 2, -1, 2, 4, -1, 0, 3])

    def test_of_those_whom_a_both_would_join(self):
        self.assertEqual(last(6, differ(5, 4), both(0, 1, 2, 3, 4, 5), same(2, 3), whynot(0, 1)),
                         [1, 0, -1, 3, 2, -1, 3, -1, 1, -1])


class BySingles(unittest.TestCase):
    def test_of_the_two_themselves(self):
        self.assertEqual(last(2, single(0, 0, 1), single(1, 0, 2), whynot(0, 1)), [1, 0, 1, 1, 2, -1])
        self.assertEqual(last(2, single(1, 0, 1), key(0, 0, 1), single(0, 0, 2), whynot(0, 1)), [1, 0, 2, 1, 3, -1])

    def test_of_others_who_are_joined_to_them(self):
        self.assertEqual(last(5, single(0, 0, 1), key(0, 1, 1), key(2, 1, 1), same(3, 1), single(3, 0, 2),
                              same(4, 1), whynot(2, 1)), [1, 0, 4, 3, 1, 2, 3, -1, 6, -1])


class TheToldOne(unittest.TestCase):
    def test_of_several_the_least(self):
        self.assertEqual(last(2, single(0, 0, 1), differ(1, 0), single(1, 0, 2), differ(0, 1), whynot(0, 1)),
                         [1, 0, 2, 1, 4, -1])
        self.assertEqual(last(2, differ(1, 0), single(0, 0, 1), single(1, 0, 2), differ(0, 1), whynot(0, 1)),
                         [1, 0, -1, 1, 4, -1])

    def test_joins_in_the_order_of_the_run_that_there_would_be(self):
        pieces = [if_so(4, 5, 6, 7), if_so(2, 3, 4, 5), if_so(0, 1, 2, 3), differ(6, 7)]
        self.assertEqual(last(8, *pieces, whynot(0, 1)), [1, 3, -1, 4, 4, -1, 2, -1, 1, -1, 0, -1])

    def test_joins_that_the_clash_needs_not_are_left_out(self):
        self.assertEqual(last(8, same(4, 5), if_so(0, 1, 2, 3), if_so(0, 1, 6, 7), differ(6, 7), whynot(0, 1)),
                         [1, 3, -1, 2, 4, -1, 2, -1])

    def test_thirty_pieces(self):
        self.assertEqual(last(2, *[key(0, 0, 0)] * 29, differ(0, 1), whynot(0, 1)), [1, 29, -1, 1, 30, -1])
        self.assertEqual(last(2, *[key(0, 0, 0)] * 28, single(1, 0, 1), single(0, 0, 0), whynot(1, 0)),
                         [1, 28, 29, 1, 30, -1])


class Zero(unittest.TestCase):
    def test_either_may_be(self):
        self.assertEqual(told(3, whynot(0, 1), differ(0, 1), whynot(0, 2), single(0, 0, 1), single(2, 1, 2),
                              whynot(0, 2)), [[0], [0], [0], [1], [2], [0]])

    def test_surely_one(self):
        self.assertEqual(told(3, same(0, 1), differ(0, 2), whynot(0, 1), whynot(1, 0))[2:], [[0], [0]])


class Refused(unittest.TestCase):
    def test_x_is_y(self):
        self.assertEqual(told(2, whynot(0, 0), differ(0, 1), whynot(1, 1)), [[-5], [0], [-5]])

    def test_clash(self):
        self.assertEqual(told(4, same(0, 1), differ(0, 1), differ(2, 3), whynot(0, 1), whynot(2, 3), whynot(0, 2))[3:],
                         [[-8]] * 3)

    def test_x_is_y_ahead_of_clash(self):
        self.assertEqual(last(2, same(0, 1), differ(0, 1), whynot(1, 1)), [-5])


class NothingChanges(unittest.TestCase):
    def test_the_same_is_not_kept(self):
        parts = told(2, differ(0, 1), TOLD, whynot(0, 1), TOLD, FITS, RUN, whynot(0, 1), drop(0), whynot(0, 1))[1:]
        self.assertEqual(parts, [[2, 1, 2, 0, 1], [1, 0, -1, 1, 1, -1], [2, 1, 2, 0, 1], [1], [0],
                                 [1, 0, -1, 1, 1, -1], [0], [0]])


class AgainstTheDefinition(unittest.TestCase):
    def test_at_many_lines(self):
        told_some = 0
        for seed in range(2000):
            people = 2 + seed % 15
            evidence = some_evidence(seed, people, 4 + seed % 27)
            if slow_clash(people, evidence):
                continue
            pairs = [(x, (x + 1 + seed % (people - 1)) % people) for x in range(people)]
            parts = told(people, *evidence, *[whynot(*pair) for pair in pairs])[len(evidence):]
            for (x, y), part in zip(pairs, parts):
                told_some += len(part) > 6
                with self.subTest(seed=seed, x=x, y=y):
                    self.assertEqual(part, slow_whynot(people, evidence, x, y))
        self.assertGreater(told_some, 100)

    def test_just_if_they_are_one_in_no_grouping_that_fits(self):
        for seed in range(300):
            people = 2 + seed % 4
            evidence = some_evidence(seed, people, 7)
            x, y = 0, people - 1
            sure = slow_verdict(people, evidence, x, y)
            with self.subTest(seed=seed):
                self.assertEqual(last(people, *evidence, whynot(x, y))[0], {0: -8, 1: 0, 2: 1, 3: 0}[sure])

    def test_check_takes_what_is_told_once_same_is_told_behind_all(self):
        proofs = 0
        for seed in range(2000):
            people = 3 + seed % 14
            evidence = some_evidence(seed, people, 4 + seed % 26)[:29]
            x, y = seed % people, (seed + 1 + seed % (people - 1)) % people
            part = last(people, *evidence, whynot(x, y))
            if part[0] == 1:
                proofs += 1
                with_same = evidence + [same(x, y)]
                one, other = clash_two(with_same, part[1:3])
                with self.subTest(seed=seed):
                    self.assertEqual(last(people, *with_same, check(one, other, *part[4:])), [1])
                    self.assertEqual(last(people, *with_same, FITS), [0] + part[1:3])
                    self.assertEqual(len(part), 4 + 2 * part[3])
        self.assertGreater(proofs, 50)


if __name__ == "__main__":
    unittest.main()
