"""person, the kinds of evidence, and drop: what they answer, and how many there may be."""

import unittest

from personbooks.books import answers
from tests.helper import (BOOKS, FITS, GREATEST_VALUE, RUN, ask, both, differ, drop, if_so, key, last, line, link,
                          person, same, single, told)


class Persons(unittest.TestCase):
    def test_are_numbered_as_they_come(self):
        self.assertEqual(ask(person(), person(), person()), [[0], [1], [2]])

    def test_the_sixteenth_is_taken_and_the_seventeenth_refused(self):
        parts = ask(*[person()] * 18)
        self.assertEqual(parts[:16], [[number] for number in range(16)])
        self.assertEqual(parts[16:], [[-7], [-7]])

    def test_a_refused_person_is_not_spoken_of(self):
        self.assertEqual(ask(*[person()] * 17, BOOKS)[-1][0], 16)

    def test_is_taken_however_much_evidence_there_is(self):
        self.assertEqual(told(1, *[key(0, 0, 0)] * 30, person())[30:], [[1]])

    def test_may_come_between_evidence(self):
        self.assertEqual(ask(person(), key(0, 0, 5), person(), key(1, 0, 5), BOOKS),
                         [[0], [0], [1], [1], [1, 2, 0, 1]])


class Evidence(unittest.TestCase):
    def test_every_kind_answers_its_number(self):
        self.assertEqual(told(6, same(0, 1), differ(2, 3), link(0, 3, 5), key(1, 5, 7), single(2, 5, 7),
                              if_so(0, 1, 2, 3), both(0, 1, 2, 3, 4, 5)),
                         [[0], [1], [2], [3], [4], [5], [6]])

    def test_every_kind_is_the_first_piece_of_a_line(self):
        for call in (same(0, 1), differ(0, 1), link(0, 0, 1), key(0, 0, 0), single(0, 0, 0), if_so(0, 1, 0, 1),
                     both(0, 1, 0, 1, 0, 1)):
            with self.subTest(call=call):
                self.assertEqual(told(2, call), [[0]])

    def test_one_and_the_same_is_taken_where_nothing_is_told_against_it(self):
        self.assertEqual(told(2, link(0, 0, 0), if_so(0, 0, 0, 1), both(0, 0, 1, 1, 0, 1), both(0, 1, 0, 1, 1, 0)),
                         [[0], [1], [2], [3]])

    def test_the_same_piece_may_be_told_twice(self):
        self.assertEqual(told(2, same(0, 1), same(0, 1), key(0, 1, 2), key(0, 1, 2), RUN),
                         [[0], [1], [2], [3], [1, 0, -1, 0, 1]])

    def test_the_thirtieth_piece_is_taken_and_the_thirty_first_refused(self):
        for call in (same(0, 1), differ(0, 1), link(0, 0, 1), key(0, 0, 0), single(0, 0, 0), if_so(0, 1, 0, 1),
                     both(0, 1, 0, 1, 0, 1)):
            with self.subTest(call=call):
                parts = told(2, *[call] * 32)
                self.assertEqual(parts[:30], [[number] for number in range(30)])
                self.assertEqual(parts[30:], [[-7], [-7]])

    def test_a_dropped_piece_makes_room_for_one(self):
        self.assertEqual(told(2, *[key(0, 0, 0)] * 30, drop(29), same(0, 1), same(0, 1))[30:], [[29], [29], [-7]])

    def test_the_greatest_and_the_least_of_every_range(self):
        self.assertEqual(told(16, same(0, 15), differ(15, 0), link(15, 0, 15), link(0, 3, 0), key(15, 0, 0),
                              key(0, 5, GREATEST_VALUE), single(15, 0, GREATEST_VALUE), single(0, 5, 0),
                              if_so(15, 0, 15, 0), both(0, 15, 15, 0, 0, 15), both(15, 0, 0, 15, 15, 0)),
                         [[number] for number in range(11)])


class Drop(unittest.TestCase):
    pieces = (same(0, 1), same(2, 3), same(4, 5))

    def test_answers_how_many_there_are_then(self):
        self.assertEqual(told(6, *self.pieces, drop(1), drop(1), drop(0))[3:], [[2], [1], [0]])

    def test_of_the_first(self):
        self.assertEqual(last(6, *self.pieces, drop(0), RUN), [2, 0, -1, 2, 3, 1, -1, 4, 5])

    def test_of_a_middle_one(self):
        self.assertEqual(last(6, *self.pieces, drop(1), RUN), [2, 0, -1, 0, 1, 1, -1, 4, 5])

    def test_of_the_last(self):
        self.assertEqual(last(6, *self.pieces, drop(2), RUN), [2, 0, -1, 0, 1, 1, -1, 2, 3])

    def test_evidence_behind_it_is_numbered_on(self):
        self.assertEqual(told(6, *self.pieces, drop(0), differ(0, 1), drop(2), drop(2))[3:], [[2], [2], [2], [-4]])

    def test_numbers_in_a_clash_are_one_less(self):
        self.assertEqual(told(2, key(0, 0, 0), single(0, 1, 1), same(0, 1), single(1, 1, 2), FITS, drop(0), FITS,
                              drop(1), FITS)[4:],
                         [[0, 1, 3], [3], [0, 0, 2], [2], [1]])

    def test_of_the_thirtieth(self):
        self.assertEqual(last(2, *[same(0, 1)] * 30, drop(29)), [29])

    def test_those_spoken_of_stay(self):
        self.assertEqual(told(3, same(0, 1), drop(0), BOOKS, person()), [[0], [0], [3, 1, 0, 1, 1, 1, 2], [3]])


class OneLine(unittest.TestCase):
    def test_number_by_number(self):
        calls = line(person(), person(), person(), same(0, 1), if_so(0, 1, 1, 2), RUN, BOOKS, FITS, differ(2, 0),
                     FITS, drop(1), BOOKS, FITS, person(), same(3, 3), same(3, 4), same(3, 16))
        self.assertEqual(answers(calls), [
            1, 0,
            1, 1,
            1, 2,
            1, 0,
            1, 1,
            9, 2, 0, -1, 0, 1, 1, -1, 1, 2,
            5, 1, 3, 0, 1, 2,
            1, 1,
            1, 2,
            3, 0, 2, -1,
            1, 2,
            6, 2, 2, 0, 1, 1, 2,
            1, 1,
            1, 3,
            1, -5,
            1, -4,
            1, -1,
        ])


if __name__ == "__main__":
    unittest.main()
