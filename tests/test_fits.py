"""fits: whether evidence clashes, and which clash is told."""

import unittest

from tests.helper import (FITS, GREATEST_VALUE, differ, drop, fitting, if_so, key, last, link, same, single, slow_fits,
                          some_evidence, told)


class NoClash(unittest.TestCase):
    def test_nobody_and_nothing(self):
        self.assertEqual(last(0, FITS), [1])
        self.assertEqual(last(16, FITS), [1])

    def test_a_differ_of_two_who_are_not_joined(self):
        self.assertEqual(last(3, differ(0, 1), same(1, 2), FITS), [1])

    def test_singles_of_unlike_kinds(self):
        self.assertEqual(last(1, single(0, 0, 1), single(0, 1, 2), FITS), [1])

    def test_singles_of_one_value(self):
        self.assertEqual(last(2, single(0, 0, 1), single(1, 0, 1), single(0, 0, 1), same(0, 1), FITS), [1])

    def test_singles_of_two_who_are_not_joined(self):
        self.assertEqual(last(2, single(0, 0, 1), single(1, 0, 2), FITS), [1])

    def test_keys_of_one_person_may_be_unlike(self):
        self.assertEqual(last(1, key(0, 0, 1), key(0, 0, 2), FITS), [1])

    def test_a_key_and_a_single_have_nothing_to_do_with_one_another(self):
        self.assertEqual(last(1, key(0, 0, 1), single(0, 0, 2), FITS), [1])

    def test_an_if_whose_two_differ(self):
        self.assertEqual(last(4, differ(0, 1), if_so(0, 1, 2, 3), differ(2, 3), FITS), [1])


class Clash(unittest.TestCase):
    def test_by_a_differ(self):
        self.assertEqual(last(2, same(0, 1), differ(1, 0), FITS), [0, 1, -1])

    def test_by_a_differ_ahead_of_what_joins(self):
        self.assertEqual(last(3, differ(0, 2), same(0, 1), same(1, 2), FITS), [0, 0, -1])

    def test_by_singles_of_one_and_the_same(self):
        self.assertEqual(last(1, single(0, 5, 0), single(0, 5, GREATEST_VALUE), FITS), [0, 0, 1])

    def test_by_singles_of_those_who_are_joined(self):
        self.assertEqual(last(3, single(0, 0, 1), same(0, 1), same(2, 1), single(2, 0, 2), FITS), [0, 0, 3])

    def test_by_links(self):
        self.assertEqual(last(3, link(0, 0, 1), link(0, 0, 2), differ(2, 1), FITS), [0, 2, -1])

    def test_is_gone_when_a_piece_of_it_is_dropped(self):
        self.assertEqual(told(2, same(0, 1), differ(0, 1), FITS, drop(0), FITS)[2:], [[0, 1, -1], [1], [1]])

    def test_is_there_for_others_who_have_no_part_in_it(self):
        self.assertEqual(last(4, same(2, 3), differ(2, 3), same(0, 1), FITS), [0, 1, -1])


class TheToldOne(unittest.TestCase):
    def test_the_first_of_two_differs(self):
        self.assertEqual(last(4, same(0, 1), same(2, 3), differ(3, 2), differ(0, 1), FITS), [0, 2, -1])

    def test_a_differ_ahead_of_singles(self):
        self.assertEqual(last(2, same(0, 1), differ(0, 1), single(0, 0, 1), single(1, 0, 2), FITS), [0, 1, -1])

    def test_singles_by_their_first_ahead_of_a_differ(self):
        self.assertEqual(last(2, same(0, 1), single(0, 0, 1), differ(0, 1), single(1, 0, 2), FITS), [0, 1, 3])

    def test_the_least_e2_of_one_e(self):
        self.assertEqual(last(1, single(0, 0, 1), single(0, 0, 1), single(0, 0, 3), single(0, 0, 2), FITS), [0, 0, 2])

    def test_the_least_e_though_its_e2_is_later(self):
        self.assertEqual(last(1, single(0, 0, 1), single(0, 1, 1), single(0, 1, 2), single(0, 0, 2), FITS), [0, 0, 3])

    def test_an_earlier_single_without_a_clash_is_passed_over(self):
        self.assertEqual(last(2, single(1, 0, 9), single(0, 0, 1), single(0, 0, 2), FITS), [0, 1, 2])


class AgainstAllGroupings(unittest.TestCase):
    def test_evidence_clashes_just_if_no_grouping_fits(self):
        outcomes = set()
        for seed in range(1500):
            people = 2 + seed % 5
            evidence = some_evidence(seed, people, 10)
            fits = bool(fitting(people, evidence))
            outcomes.add(fits)
            with self.subTest(seed=seed):
                self.assertEqual(last(people, *evidence, FITS)[0], 1 if fits else 0)
        self.assertEqual(outcomes, {True, False})

    def test_the_told_clash_is_the_least(self):
        for seed in range(600):
            people = 2 + seed % 5
            evidence = some_evidence(seed, people, 14)
            with self.subTest(seed=seed):
                self.assertEqual(last(people, *evidence, FITS), slow_fits(people, evidence))


if __name__ == "__main__":
    unittest.main()
