"""linked, value and told: what is told of somebody, and of all."""

import unittest

from tests.helper import (FITS, GREATEST_VALUE, RUN, TOLD, both, differ, drop, if_so, key, last, link, linked, person,
                          same, single, slow_linked, slow_value, some_evidence, told, value)


class Linked(unittest.TestCase):
    def test_nobody(self):
        self.assertEqual(told(2, linked(0, 0), link(0, 1, 1), linked(0, 0), linked(1, 1)), [[0], [0], [0], [0]])

    def test_the_y_of_a_link(self):
        self.assertEqual(told(16, link(0, 3, 15), link(15, 0, 0), linked(0, 3), linked(15, 0), linked(0, 0))[2:],
                         [[1, 15], [1, 0], [0]])

    def test_of_somebody_who_is_joined_to_x(self):
        self.assertEqual(told(4, link(0, 1, 2), same(3, 1), same(1, 0), linked(1, 1), linked(3, 1), linked(2, 1))[3:],
                         [[1, 2], [1, 2], [0]])

    def test_the_least_of_several(self):
        self.assertEqual(last(5, link(0, 0, 4), link(0, 0, 2), link(0, 0, 3), linked(0, 0)), [1, 2])
        self.assertEqual(last(5, link(0, 0, 4), same(0, 1), link(1, 0, 3), linked(0, 0)), [1, 3])

    def test_the_least_is_nobodys_y(self):
        self.assertEqual(last(6, link(5, 2, 4), same(4, 3), same(3, 1), linked(5, 2)), [1, 1])

    def test_x_themselves(self):
        self.assertEqual(told(3, link(1, 0, 1), linked(1, 0), same(0, 1), linked(1, 0), linked(0, 0))[1:],
                         [[1, 1], [1], [1, 0], [1, 0]])

    def test_another_f(self):
        self.assertEqual(told(4, link(0, 0, 1), link(0, 1, 2), link(0, 2, 3), linked(0, 0), linked(0, 1), linked(0, 2),
                              linked(0, 3))[3:], [[1, 1], [1, 2], [1, 3], [0]])

    def test_though_evidence_clashes(self):
        self.assertEqual(told(4, link(0, 0, 3), link(0, 0, 2), differ(2, 3), linked(0, 0), linked(1, 0), FITS)[3:],
                         [[1, 2], [0], [0, 2, -1]])

    def test_behind_a_drop(self):
        self.assertEqual(told(4, link(0, 0, 3), link(0, 0, 2), drop(1), linked(0, 0), drop(0), linked(0, 0))[2:],
                         [[1], [1, 3], [0], [0]])

    def test_against_the_definition(self):
        for seed in range(400):
            people = 2 + seed % 15
            evidence = some_evidence(seed, people, 30)
            asked = [(x, f) for x in range(people) for f in range(2)]
            parts = told(people, *evidence, *[linked(*pair) for pair in asked])[len(evidence):]
            with self.subTest(seed=seed):
                self.assertEqual(parts, [slow_linked(people, evidence, *pair) for pair in asked])


class Value(unittest.TestCase):
    def test_none(self):
        self.assertEqual(told(2, value(0, 0), single(0, 1, 5), value(0, 0), value(1, 1), key(1, 1, 5), value(1, 1)),
                         [[0], [0], [0], [0], [1], [0]])

    def test_of_x_themselves(self):
        self.assertEqual(told(16, single(0, 0, 0), single(15, 5, GREATEST_VALUE), value(0, 0), value(15, 5))[2:],
                         [[1, 0], [1, GREATEST_VALUE]])

    def test_of_somebody_who_is_joined_to_x(self):
        self.assertEqual(told(3, single(2, 1, 8), same(0, 1), same(1, 2), value(0, 1), value(2, 1), value(0, 2))[3:],
                         [[1, 8], [1, 8], [0]])

    def test_the_first_of_the_kind(self):
        self.assertEqual(told(3, single(2, 0, 9), single(1, 1, 7), single(1, 0, 6), single(0, 0, 5), same(0, 1),
                              value(0, 0), value(1, 0), value(1, 1), FITS)[5:], [[1, 6], [1, 6], [1, 7], [0, 2, 3]])

    def test_behind_a_drop(self):
        self.assertEqual(told(1, single(0, 0, 6), single(0, 0, 5), value(0, 0), drop(0), value(0, 0), drop(0),
                              value(0, 0))[2:], [[1, 6], [1], [1, 5], [0], [0]])

    def test_against_the_definition(self):
        for seed in range(400):
            people = 2 + seed % 15
            evidence = some_evidence(seed, people, 30)
            asked = [(x, k) for x in range(people) for k in range(2)]
            parts = told(people, *evidence, *[value(*pair) for pair in asked])[len(evidence):]
            with self.subTest(seed=seed):
                self.assertEqual(parts, [slow_value(people, evidence, *pair) for pair in asked])


class Told(unittest.TestCase):
    pieces = (same(1, 0), differ(2, 3), link(4, 3, 5), key(5, 5, GREATEST_VALUE), single(0, 0, 0), if_so(5, 4, 3, 2),
              both(5, 4, 3, 2, 1, 0))

    def test_nobody_and_nothing(self):
        self.assertEqual(last(0, TOLD), [0, 0])
        self.assertEqual(last(16, TOLD), [16, 0])

    def test_each_kind(self):
        self.assertEqual(last(6, *self.pieces, TOLD),
                         [6, 7, 1, 1, 0, 2, 2, 3, 3, 4, 3, 5, 4, 5, 5, GREATEST_VALUE, 5, 0, 0, 0, 6, 5, 4, 3, 2,
                          7, 5, 4, 3, 2, 1, 0])
        for piece in self.pieces:
            with self.subTest(piece=piece):
                self.assertEqual(last(7, piece, TOLD), [7, 1] + piece)

    def test_behind_a_drop(self):
        for e in range(len(self.pieces)):
            left = self.pieces[:e] + self.pieces[e + 1:]
            with self.subTest(e=e):
                self.assertEqual(last(6, *self.pieces, drop(e), TOLD), [6, 6] + [part for piece in left for part in piece])

    def test_a_piece_and_a_person_more(self):
        self.assertEqual(told(2, same(0, 1), TOLD, person(), same(2, 1), TOLD, drop(0), TOLD)[1:],
                         [[2, 1, 1, 0, 1], [2], [1], [3, 2, 1, 0, 1, 1, 2, 1], [1], [3, 1, 1, 2, 1]])

    def test_what_was_refused_is_not_told(self):
        self.assertEqual(told(2, same(0, 0), same(0, 2), same(0, 16), link(0, 4, 0), TOLD)[4:], [[2, 0]])

    def test_thirty_pieces(self):
        self.assertEqual(last(1, *[key(0, 1, w) for w in range(31)], TOLD),
                         [1, 30] + [number for w in range(30) for number in (4, 0, 1, w)])

    def test_asking_changes_nothing(self):
        self.assertEqual(told(6, *self.pieces, TOLD, linked(4, 3), value(0, 0), RUN, TOLD)[7:][::4],
                         [last(6, *self.pieces, TOLD)] * 2)


if __name__ == "__main__":
    unittest.main()
