"""ways: how many groupings fit, and in how many of them two are one."""

import unittest

from tests.helper import (TOLD, both, differ, drop, if_so, key, last, link, person, same, single, slow_ways,
                          some_evidence, told, verdict, ways)


class Ways(unittest.TestCase):
    def test_nothing_told(self):
        self.assertEqual([last(people, ways(0, people - 1)) for people in range(1, 8)],
                         [[1, 1], [2, 1], [5, 2], [15, 5], [52, 15], [203, 52], [877, 203]])

    def test_x_is_y(self):
        self.assertEqual(told(7, ways(6, 6), same(0, 6), ways(3, 3)), [[877, 877], [0], [203, 203]])

    def test_seven_and_eight(self):
        self.assertEqual(told(7, ways(0, 1), person(), ways(0, 1), ways(7, 7)), [[877, 203], [7], [-9], [-9]])
        self.assertEqual(last(16, ways(0, 15)), [-9])

    def test_none_fits(self):
        self.assertEqual(told(3, same(0, 1), differ(0, 1), ways(0, 1), ways(2, 2), drop(0), ways(0, 1))[2:],
                         [[0, 0], [0, 0], [1], [3, 0]])
        self.assertEqual(last(2, single(0, 0, 0), single(0, 0, 1), ways(0, 1)), [0, 0])

    def test_each_kind(self):
        self.assertEqual(last(3, same(0, 1), ways(0, 1)), [2, 2])
        self.assertEqual(last(3, differ(0, 1), ways(0, 2)), [3, 1])
        self.assertEqual(last(3, key(0, 0, 0), key(1, 0, 0), key(2, 0, 1), ways(0, 2)), [2, 1])
        self.assertEqual(last(3, single(0, 0, 0), single(1, 0, 0), single(2, 0, 1), ways(0, 1)), [2, 1])
        self.assertEqual(last(3, link(0, 0, 1), link(0, 0, 2), ways(0, 1)), [2, 1])
        self.assertEqual(last(3, if_so(0, 1, 1, 2), ways(0, 1)), [4, 1])
        self.assertEqual(last(4, both(0, 1, 1, 2, 2, 3), ways(0, 1)), [14, 4])
        self.assertEqual(last(4, link(0, 0, 2), link(1, 0, 3), ways(0, 1)), [12, 2])

    def test_one_grouping(self):
        self.assertEqual(last(7, *[same(x, x + 1) for x in range(6)], ways(0, 6)), [1, 1])
        self.assertEqual(last(7, *[single(x, 0, x) for x in range(7)], ways(0, 6)), [1, 0])

    def test_with_the_verdict(self):
        for seed in range(300):
            people = 2 + seed % 5
            evidence = some_evidence(seed, people, 8)
            parts = told(people, *evidence, ways(0, people - 1), verdict(0, people - 1))[len(evidence):]
            all_of_them, one = parts[0]
            sure = -8 if all_of_them == 0 else 1 if one == all_of_them else 2 if one == 0 else 3
            with self.subTest(seed=seed):
                self.assertEqual(parts[1], [sure])

    def test_against_all_groupings(self):
        for seed in range(300):
            people = 2 + seed % 4
            evidence = some_evidence(seed, people, 8)
            with self.subTest(seed=seed):
                self.assertEqual(last(people, *evidence, ways(0, seed % people)),
                                 slow_ways(people, evidence, 0, seed % people))
        for seed in range(12):
            evidence = some_evidence(seed, 7, 10)
            with self.subTest(seed=seed):
                self.assertEqual(last(7, *evidence, ways(6, seed % 7)), slow_ways(7, evidence, 6, seed % 7))

    def test_nothing_changes(self):
        parts = told(7, same(0, 1), TOLD, ways(0, 1), TOLD, ways(0, 1))
        self.assertEqual(parts[1::2], [[7, 1, 1, 0, 1]] * 2)
        self.assertEqual(parts[2::2], [[203, 203]] * 2)


if __name__ == "__main__":
    unittest.main()
