"""The run: which joins there are, and in which order."""

import unittest

from tests.helper import (RUN, both, differ, drop, if_so, key, last, link, same, single, slow_run, some_evidence, told)


class Joins(unittest.TestCase):
    def test_nobody_and_nothing(self):
        self.assertEqual(last(0, RUN), [0])
        self.assertEqual(last(3, RUN), [0])

    def test_by_a_same(self):
        self.assertEqual(last(3, same(2, 1), RUN), [1, 0, -1, 2, 1])

    def test_by_two_keys(self):
        self.assertEqual(last(3, key(2, 0, 9), key(1, 0, 9), RUN), [1, 0, 1, 2, 1])

    def test_no_join_by_keys_of_unlike_kind_or_number(self):
        self.assertEqual(last(2, key(0, 0, 9), key(1, 1, 9), key(1, 0, 8), RUN), [0])

    def test_no_join_by_a_key_and_a_single(self):
        self.assertEqual(last(2, key(0, 0, 9), single(1, 0, 9), RUN), [0])
        self.assertEqual(last(2, single(0, 0, 9), key(1, 0, 9), single(1, 0, 9), RUN), [0])

    def test_by_two_links_of_one_and_the_same(self):
        self.assertEqual(last(3, link(0, 2, 2), link(0, 2, 1), RUN), [1, 0, 1, 2, 1])

    def test_by_two_links_of_those_who_are_joined(self):
        self.assertEqual(last(4, link(0, 2, 2), link(1, 2, 3), same(1, 0), RUN), [2, 2, -1, 1, 0, 0, 1, 2, 3])

    def test_no_join_by_links_of_unlike_f_or_of_those_not_joined(self):
        self.assertEqual(last(4, link(0, 2, 2), link(0, 1, 3), link(1, 2, 3), RUN), [0])

    def test_no_join_from_a_link_back_to_its_x(self):
        self.assertEqual(last(4, link(0, 0, 2), link(1, 0, 2), RUN), [0])

    def test_by_links_to_themselves(self):
        self.assertEqual(last(2, link(0, 0, 0), link(0, 0, 1), RUN), [1, 0, 1, 0, 1])

    def test_by_an_if(self):
        self.assertEqual(last(4, if_so(0, 1, 3, 2), same(0, 1), RUN), [2, 1, -1, 0, 1, 0, -1, 3, 2])
        self.assertEqual(last(4, if_so(0, 1, 3, 2), same(3, 2), RUN), [1, 1, -1, 3, 2])

    def test_by_an_if_of_one_and_the_same(self):
        self.assertEqual(last(4, if_so(3, 3, 2, 1), RUN), [1, 0, -1, 2, 1])

    def test_by_a_both(self):
        pieces = [both(0, 1, 2, 3, 5, 4), same(0, 1), same(2, 3)]
        self.assertEqual(last(6, *pieces, RUN), [3, 1, -1, 0, 1, 2, -1, 2, 3, 0, -1, 5, 4])
        self.assertEqual(last(6, *pieces[:2], RUN), [1, 1, -1, 0, 1])
        self.assertEqual(last(6, *pieces[::2], RUN), [1, 1, -1, 2, 3])

    def test_by_a_both_of_one_and_the_same(self):
        self.assertEqual(last(6, both(0, 0, 1, 1, 5, 4), RUN), [1, 0, -1, 5, 4])
        self.assertEqual(last(6, both(0, 0, 1, 2, 5, 4), same(2, 1), RUN), [2, 1, -1, 2, 1, 0, -1, 5, 4])
        self.assertEqual(last(6, both(1, 2, 0, 0, 5, 4), same(2, 1), RUN), [2, 1, -1, 2, 1, 0, -1, 5, 4])
        self.assertEqual(last(6, both(0, 0, 1, 2, 5, 4), RUN), [0])
        self.assertEqual(last(6, both(1, 2, 0, 0, 5, 4), RUN), [0])

    def test_none_by_a_differ_or_a_single(self):
        self.assertEqual(last(2, differ(0, 1), single(0, 0, 1), single(1, 0, 1), RUN), [0])

    def test_none_of_two_who_are_joined_already(self):
        self.assertEqual(last(3, same(0, 1), same(1, 2), same(0, 2), same(1, 0), RUN), [2, 0, -1, 0, 1, 1, -1, 1, 2])
        self.assertEqual(last(3, same(0, 1), key(0, 0, 0), key(1, 0, 0), if_so(2, 2, 1, 0), link(2, 0, 0),
                              link(2, 0, 1), RUN), [1, 0, -1, 0, 1])

    def test_none_of_somebody_and_themselves(self):
        self.assertEqual(last(2, key(0, 0, 0), key(0, 0, 0), link(1, 0, 0), link(1, 0, 0), RUN), [0])

    def test_goes_on_though_evidence_clashes(self):
        self.assertEqual(last(3, differ(0, 1), same(0, 1), same(1, 2), RUN), [2, 1, -1, 0, 1, 2, -1, 1, 2])


class Order(unittest.TestCase):
    def test_by_e(self):
        self.assertEqual(last(6, same(4, 5), same(0, 1), same(2, 3), RUN),
                         [3, 0, -1, 4, 5, 1, -1, 0, 1, 2, -1, 2, 3])

    def test_by_e2_then(self):
        self.assertEqual(last(4, key(0, 0, 0), key(3, 0, 0), key(1, 0, 0), key(2, 0, 0), RUN),
                         [3, 0, 1, 0, 3, 0, 2, 0, 1, 0, 3, 0, 2])

    def test_an_earlier_e_with_a_later_e2_goes_first(self):
        self.assertEqual(last(4, key(0, 0, 0), same(2, 3), key(1, 0, 0), RUN), [2, 0, 2, 0, 1, 1, -1, 2, 3])

    def test_looked_for_from_the_first_piece_on_each_time(self):
        self.assertEqual(last(6, if_so(0, 1, 2, 3), same(0, 1), same(4, 5), RUN),
                         [3, 1, -1, 0, 1, 0, -1, 2, 3, 2, -1, 4, 5])

    def test_an_earlier_e2_that_is_there_later_only(self):
        self.assertEqual(last(6, link(0, 0, 1), link(2, 0, 3), link(0, 0, 4), if_so(1, 4, 0, 2), same(4, 5), RUN),
                         [4, 0, 2, 1, 4, 3, -1, 0, 2, 0, 1, 1, 3, 4, -1, 4, 5])

    def test_which_of_two_joins_is_made_hangs_on_the_order(self):
        self.assertEqual(last(3, same(0, 1), key(1, 0, 0), key(2, 0, 0), same(0, 2), RUN),
                         [2, 0, -1, 0, 1, 1, 2, 1, 2])
        self.assertEqual(last(3, same(0, 2), same(0, 1), key(1, 0, 0), key(2, 0, 0), RUN),
                         [2, 0, -1, 0, 2, 1, -1, 0, 1])

    def test_joins_that_are_there_only_because_of_earlier_ones(self):
        self.assertEqual(last(8, both(4, 5, 2, 3, 6, 7), if_so(2, 3, 4, 5), link(0, 1, 2), link(1, 1, 3),
                              key(0, 2, 8), key(1, 2, 8), RUN),
                         [4, 4, 5, 0, 1, 2, 3, 2, 3, 1, -1, 4, 5, 0, -1, 6, 7])

    def test_joined_through_others(self):
        self.assertEqual(last(5, if_so(0, 2, 3, 4), same(0, 1), same(2, 1), RUN),
                         [3, 1, -1, 0, 1, 2, -1, 2, 1, 0, -1, 3, 4])

    def test_fifteen_joins_in_a_chain(self):
        pieces = [if_so(x, x + 1, x + 1, x + 2) for x in range(13, -1, -1)] + [same(0, 1)]
        joins = [14, -1, 0, 1]
        for x in range(14):
            joins += [13 - x, -1, x + 1, x + 2]
        self.assertEqual(last(16, *pieces, RUN), [15] + joins)

    def test_behind_a_drop(self):
        self.assertEqual(told(4, same(0, 1), if_so(0, 1, 2, 3), RUN, drop(0), RUN)[2:],
                         [[2, 0, -1, 0, 1, 1, -1, 2, 3], [1], [0]])


class AgainstASlowRun(unittest.TestCase):
    def test_at_many_lines(self):
        for seed in range(1500):
            people = 2 + seed % 15
            evidence = some_evidence(seed, people, 30)
            with self.subTest(seed=seed):
                self.assertEqual(last(people, *evidence, RUN), slow_run(people, evidence))


if __name__ == "__main__":
    unittest.main()
