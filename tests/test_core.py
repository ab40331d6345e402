"""core and clash: as few pieces as still make it so, those left out first that came last."""

import unittest

from tests.helper import (CLASH, FITS, TOLD, both, check, core, differ, drop, if_so, key, last, link, same, single,
                          slow_clash, slow_core, slow_joins, some_evidence, told)


class Core(unittest.TestCase):
    def test_x_is_y(self):
        self.assertEqual(told(16, core(0, 0), core(15, 15), same(0, 1), core(1, 1)), [[1, 0], [1, 0], [0], [1, 0]])

    def test_not_joined(self):
        self.assertEqual(told(3, core(0, 1), same(0, 1), core(0, 2), differ(0, 2), core(2, 0)),
                         [[0], [0], [0], [1], [0]])

    def test_by_one_piece(self):
        self.assertEqual(last(3, key(2, 0, 0), same(0, 1), differ(0, 2), core(1, 0)), [1, 1, 1])

    def test_the_last_is_left_out_first(self):
        self.assertEqual(last(2, same(0, 1), same(1, 0), core(0, 1)), [1, 1, 0])
        self.assertEqual(last(3, same(0, 2), same(0, 1), same(1, 2), core(0, 2)), [1, 1, 0])
        self.assertEqual(last(3, same(0, 1), same(1, 2), same(0, 2), core(0, 2)), [1, 2, 0, 1])
        self.assertEqual(last(2, key(0, 0, 0), key(0, 0, 0), key(1, 0, 0), key(1, 0, 0), core(0, 1)), [1, 2, 0, 2])

    def test_not_just_what_why_needs(self):
        self.assertEqual(last(4, if_so(0, 1, 2, 3), key(0, 0, 0), key(1, 0, 0), same(0, 1), core(2, 3)), [1, 3, 0, 1, 2])

    def test_by_every_kind_that_joins(self):
        pieces = [both(4, 5, 6, 7, 8, 9), if_so(2, 3, 4, 5), single(0, 0, 0), link(0, 1, 2), link(1, 1, 3), same(0, 1),
                  key(6, 0, 0), key(7, 0, 0), key(8, 0, 0)]
        self.assertEqual(told(10, *pieces, core(8, 9), core(2, 3), core(6, 7), core(4, 5))[9:],
                         [[1, 7, 0, 1, 3, 4, 5, 6, 7], [1, 3, 3, 4, 5], [1, 2, 6, 7], [1, 4, 1, 3, 4, 5]])

    def test_thirty_pieces(self):
        self.assertEqual(last(16, *[same(x, x + 1) for x in range(15)] * 2, core(0, 15)), [1, 15] + list(range(15)))
        self.assertEqual(last(2, *[key(0, 0, 0)] * 29, same(0, 1), core(0, 1)), [1, 1, 29])

    def test_though_evidence_clashes(self):
        self.assertEqual(told(3, differ(0, 1), same(0, 1), core(0, 1), core(2, 2), core(0, 2))[2:],
                         [[1, 1, 1], [1, 0], [0]])

    def test_behind_a_drop(self):
        self.assertEqual(told(3, same(0, 2), same(0, 1), same(1, 2), drop(0), core(0, 2))[3:], [[2], [1, 2, 0, 1]])


class Clash(unittest.TestCase):
    def test_none(self):
        self.assertEqual(told(3, CLASH, differ(0, 1), same(1, 2), CLASH), [[0], [0], [1], [0]])
        self.assertEqual(last(0, CLASH), [0])

    def test_by_a_differ(self):
        self.assertEqual(last(3, same(1, 2), differ(0, 1), same(0, 1), CLASH), [1, 2, 1, 2])

    def test_by_singles(self):
        self.assertEqual(last(1, single(0, 0, 1), single(0, 0, 2), single(0, 0, 3), CLASH), [1, 2, 0, 1])
        self.assertEqual(last(1, single(0, 1, 0), single(0, 0, 2), single(0, 0, 2), single(0, 0, 3), CLASH),
                         [1, 2, 1, 3])

    def test_the_last_is_left_out_first(self):
        self.assertEqual(last(2, same(0, 1), differ(0, 1), differ(1, 0), same(1, 0), CLASH), [1, 2, 0, 1])
        self.assertEqual(last(3, differ(0, 2), same(0, 1), same(1, 2), single(2, 0, 0), single(2, 0, 1), CLASH),
                         [1, 3, 0, 1, 2])

    def test_the_told_clash_need_not_be_the_core(self):
        pieces = [single(0, 0, 0), same(2, 3), differ(2, 3), same(0, 1), single(1, 0, 1)]
        self.assertEqual(told(4, *pieces, FITS, CLASH)[5:], [[0, 0, 4], [1, 2, 1, 2]])

    def test_through_several_steps(self):
        self.assertEqual(last(6, differ(4, 5), both(2, 3, 0, 1, 4, 5), link(0, 0, 2), same(0, 1), link(1, 0, 3),
                              differ(0, 5), CLASH), [1, 5, 0, 1, 2, 3, 4])

    def test_thirty_pieces(self):
        self.assertEqual(last(2, *[differ(0, 1)] * 29, same(0, 1), CLASH), [1, 2, 0, 29])
        self.assertEqual(last(16, *[same(x, x + 1) for x in range(15)], *[differ(0, 15)] * 15, CLASH),
                         [1, 16] + list(range(16)))

    def test_behind_a_drop(self):
        self.assertEqual(told(2, differ(0, 1), differ(0, 1), same(0, 1), CLASH, drop(0), CLASH, drop(1), CLASH)[3:],
                         [[1, 2, 0, 2], [2], [1, 2, 0, 1], [1], [0]])

    def test_nothing_changes(self):
        parts = told(2, differ(0, 1), key(0, 0, 0), same(0, 1), same(0, 1), TOLD, CLASH, core(0, 1), TOLD, CLASH,
                     check(0, 1, 3, -1))[4:]
        self.assertEqual(parts, [parts[0], [1, 2, 0, 2], [1, 1, 2], parts[0], [1, 2, 0, 2], [1]])


class AgainstTheDefinition(unittest.TestCase):
    def test_core(self):
        for seed in range(250):
            people = 2 + seed % 15
            evidence = some_evidence(seed, people, 20)
            x, y = seed % people, (seed * 7 + 1) % people
            with self.subTest(seed=seed):
                self.assertEqual(last(people, *evidence, core(x, y)),
                                 slow_core(evidence, lambda some: y in slow_joins(people, some)[1][x]))

    def test_clash(self):
        for seed in range(250):
            people = 2 + seed % 15
            evidence = some_evidence(seed, people, 20)
            with self.subTest(seed=seed):
                self.assertEqual(last(people, *evidence, CLASH),
                                 slow_core(evidence, lambda some: slow_clash(people, some) is not None))


class Point4(unittest.TestCase):
    """By a core it is so, and without any one of its pieces it isn't any more."""

    def without_one(self, evidence, numbers):
        """The core's pieces, then these without each one of them."""
        whole = [evidence[number] for number in numbers]
        return whole, [whole[:place] + whole[place + 1:] for place in range(len(whole))]

    def test_core(self):
        seen = 0
        for seed in range(300):
            people = 4 + seed % 13
            evidence = some_evidence(seed, people, 30)
            x, y = seed % people, (seed * 7 + 1) % people
            part = last(people, *evidence, core(x, y))
            if part[0] == 1:
                whole, less = self.without_one(evidence, part[2:])
                seen += len(whole) > 2
                with self.subTest(seed=seed):
                    self.assertNotEqual(last(people, *whole, core(x, y)), [0])
                    self.assertEqual([last(people, *some, core(x, y)) for some in less], [[0]] * len(whole))
        self.assertGreater(seen, 20)

    def test_clash(self):
        seen = 0
        for seed in range(300):
            people = 4 + seed % 13
            evidence = some_evidence(seed, people, 30)
            part = last(people, *evidence, CLASH)
            if part[0] == 1:
                whole, less = self.without_one(evidence, part[2:])
                seen += len(whole) > 2
                with self.subTest(seed=seed):
                    self.assertEqual(last(people, *whole, FITS)[0], 0)
                    self.assertEqual([last(people, *some, FITS) for some in less], [[1]] * len(whole))
        self.assertGreater(seen, 20)


if __name__ == "__main__":
    unittest.main()
