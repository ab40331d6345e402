"""verdict and known: what's sure of two, by all pieces and by the first ones alone."""

import unittest

from tests.helper import (FITS, TOLD, both, differ, drop, if_so, key, known, last, link, same, single, slow_verdict,
                          some_evidence, told, verdict)


class SurelyOne(unittest.TestCase):
    def test_by_a_same(self):
        self.assertEqual(told(3, same(0, 1), verdict(0, 1), verdict(1, 0))[1:], [[1], [1]])

    def test_through_others(self):
        self.assertEqual(last(4, same(0, 1), key(1, 0, 5), key(2, 0, 5), link(2, 1, 2), link(0, 1, 3), verdict(3, 0)),
                         [1])

    def test_x_is_y(self):
        self.assertEqual(told(16, verdict(0, 0), verdict(15, 15), differ(0, 15), verdict(0, 0)),
                         [[1], [1], [0], [1]])


class SurelyNot(unittest.TestCase):
    def test_by_a_differ(self):
        self.assertEqual(told(2, differ(0, 1), verdict(0, 1), verdict(1, 0))[1:], [[2], [2]])

    def test_by_a_differ_of_others_who_are_joined_to_them(self):
        self.assertEqual(last(4, differ(1, 2), same(0, 1), same(3, 2), verdict(0, 3)), [2])

    def test_by_singles(self):
        self.assertEqual(last(2, single(0, 5, 0), single(1, 5, 1), verdict(0, 1)), [2])
        self.assertEqual(last(4, single(2, 5, 0), single(3, 5, 1), same(0, 2), same(1, 3), verdict(0, 1)), [2])

    def test_as_an_if_would_join_those_who_differ(self):
        self.assertEqual(told(4, if_so(0, 1, 2, 3), differ(2, 3), verdict(0, 1), verdict(2, 3))[2:], [[2], [2]])

    def test_as_links_would_join_those_who_differ(self):
        self.assertEqual(last(4, link(0, 0, 2), link(1, 0, 3), differ(2, 3), verdict(0, 1)), [2])

    def test_as_a_both_would_join_those_who_differ(self):
        pieces = [both(0, 1, 2, 3, 4, 5), differ(4, 5)]
        self.assertEqual(told(6, *pieces, verdict(0, 1), verdict(2, 3), same(2, 3), verdict(0, 1))[2:],
                         [[3], [3], [2], [2]])


class Either(unittest.TestCase):
    def test_nothing_told(self):
        self.assertEqual(last(2, verdict(0, 1)), [3])

    def test_keys_of_unlike_numbers(self):
        self.assertEqual(last(2, key(0, 0, 1), key(1, 0, 2), verdict(0, 1)), [3])

    def test_singles_of_one_value_or_of_unlike_kinds(self):
        self.assertEqual(last(2, single(0, 0, 1), single(1, 0, 1), single(0, 1, 7), single(1, 2, 8), verdict(0, 1)),
                         [3])

    def test_an_if_back_to_front(self):
        self.assertEqual(last(4, if_so(0, 1, 2, 3), same(2, 3), verdict(0, 1)), [3])
        self.assertEqual(last(4, if_so(0, 1, 2, 3), differ(0, 1), verdict(2, 3)), [3])

    def test_one_mother_of_two(self):
        self.assertEqual(last(3, link(0, 0, 2), link(1, 0, 2), verdict(0, 1)), [3])


class Clashing(unittest.TestCase):
    pieces = (same(0, 1), differ(1, 0), same(2, 3), differ(3, 4))

    def test_of_those_who_have_a_part_in_it_and_of_others(self):
        self.assertEqual(told(6, *self.pieces, verdict(0, 1), verdict(2, 3), verdict(3, 4), verdict(4, 5),
                              verdict(5, 5))[4:], [[-8]] * 5)

    def test_behind_a_drop_nothing_clashes(self):
        self.assertEqual(told(6, *self.pieces, verdict(0, 1), drop(0), verdict(0, 1), drop(0), verdict(0, 1))[4:],
                         [[-8], [3], [2], [2], [3]])


class Known(unittest.TestCase):
    pieces = (same(0, 1), differ(1, 2), same(3, 2), same(2, 0), same(4, 5))

    def asked(self, x, y):
        """What's known by 0, 1, .. pieces, then by more than there are."""
        return [part[0] for part in told(6, *self.pieces, *[known(n, x, y) for n in (0, 1, 2, 3, 4, 5, 6, 30)])[5:]]

    def test_by_the_first_n(self):
        self.assertEqual(self.asked(0, 1), [3, 1, 1, 1, 0, 0, 0, 0])
        self.assertEqual(self.asked(0, 2), [3, 3, 2, 2, 0, 0, 0, 0])
        self.assertEqual(self.asked(3, 0), [3, 3, 3, 2, 0, 0, 0, 0])

    def test_x_is_y(self):
        self.assertEqual(self.asked(0, 0), [1, 1, 1, 1, 0, 0, 0, 0])
        self.assertEqual(self.asked(5, 5), [1, 1, 1, 1, 0, 0, 0, 0])

    def test_no_evidence_at_all(self):
        self.assertEqual(told(2, known(0, 0, 1), known(30, 0, 1), known(0, 1, 1)), [[3], [3], [1]])

    def test_n_at_and_above_how_many_there_are(self):
        self.assertEqual(told(2, key(0, 0, 0), same(0, 1), known(1, 0, 1), known(2, 0, 1), known(3, 0, 1),
                              known(30, 0, 1))[2:], [[3], [1], [1], [1]])

    def test_thirty_pieces(self):
        self.assertEqual(told(2, *[key(0, 0, 0)] * 29, differ(0, 1), known(28, 0, 1), known(29, 0, 1),
                              known(30, 0, 1))[30:], [[3], [3], [2]])

    def test_behind_a_drop(self):
        self.assertEqual(told(6, *self.pieces, drop(0), known(1, 0, 2), known(3, 0, 2), known(1, 1, 2))[6:],
                         [[3], [1], [2]])

    def test_with_all_pieces_it_is_the_verdict(self):
        for seed in range(200):
            evidence = some_evidence(seed, 5, 12)
            parts = told(5, *evidence, *[call for x in range(5) for y in range(5)
                                         for call in (verdict(x, y), known(len(evidence), x, y))])[len(evidence):]
            for sure, by_all in zip(parts[::2], parts[1::2]):
                with self.subTest(seed=seed):
                    self.assertEqual(by_all, [0] if sure == [-8] else sure)

    def test_nothing_changes(self):
        parts = told(6, *self.pieces, TOLD, known(1, 0, 1), known(4, 0, 1), verdict(0, 1), TOLD, FITS)[5:]
        self.assertEqual(parts[0], parts[4])
        self.assertEqual(parts[5], [0, 1, -1])


class AgainstAllGroupings(unittest.TestCase):
    def test_verdict(self):
        seen = set()
        for seed in range(500):
            people = 2 + seed % 4
            evidence = some_evidence(seed, people, 9)
            pairs = [(x, y) for x in range(people) for y in range(people)]
            parts = told(people, *evidence, *[verdict(x, y) for x, y in pairs])[len(evidence):]
            for (x, y), part in zip(pairs, parts):
                seen.add((part[0], x == y))
                with self.subTest(seed=seed, x=x, y=y):
                    self.assertEqual(part, [slow_verdict(people, evidence, x, y) or -8])
        self.assertEqual(seen, {(1, True), (-8, True), (1, False), (2, False), (3, False), (-8, False)})

    def test_known(self):
        seen = set()
        for seed in range(300):
            people = 2 + seed % 4
            evidence = some_evidence(seed, people, 9)
            x, y = seed % people, (seed // 3) % people
            parts = told(people, *evidence, *[known(n, x, y) for n in range(31)])[len(evidence):]
            slow = [slow_verdict(people, evidence[:n], x, y) for n in range(len(evidence) + 1)]
            for n, part in enumerate(parts):
                seen.add(part[0])
                with self.subTest(seed=seed, n=n):
                    self.assertEqual(part, [slow[min(n, len(evidence))]])
        self.assertEqual(seen, {0, 1, 2, 3})


if __name__ == "__main__":
    unittest.main()
