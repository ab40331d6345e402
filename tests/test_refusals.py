"""Every refusal, which is looked at first, and that nothing changes behind one."""

import unittest

from tests.helper import (BOOKS, FAR, FITS, GREATEST_VALUE, RUN, both, changed, differ, drop, if_so, key, last, link,
                          person, places, same, single, told)

# Each call with good numbers, and the letters of its numbers: x somebody, e evidence, f, k, w as in the words.
GOOD = (
    (same(0, 1), "xx"),
    (differ(0, 1), "xx"),
    (link(0, 1, 1), "xfx"),
    (key(0, 1, 7), "xkw"),
    (single(0, 1, 7), "xkw"),
    (if_so(0, 1, 1, 0), "xxxx"),
    (both(0, 1, 1, 0, 0, 1), "xxxxxx"),
    (drop(0), "e"),
)
GREATEST = {"x": 15, "e": 29, "f": 3, "k": 5, "w": GREATEST_VALUE}
FULL = [key(0, 0, 0)] * 30


class OutOfRange(unittest.TestCase):
    def test_one_below_and_one_above_and_far_out(self):
        for call, place, letter in places(GOOD):
            for number in (-1, GREATEST[letter] + 1, -FAR, FAR):
                with self.subTest(call=call, place=place, number=number):
                    self.assertEqual(last(16, *FULL[:29], changed(call, place, number)), [-1])

    def test_the_least_and_the_greatest_are_not_refused_with_it(self):
        for call, place, letter in places(GOOD):
            for number in (0, GREATEST[letter]):
                with self.subTest(call=call, place=place, number=number):
                    refused = last(16, *FULL[:29], changed(call, place, number))[0]
                    self.assertNotEqual(refused, -1)
                    if letter in "fkw":
                        self.assertEqual(refused, 29)

    def test_evidence_29_is_in_range_and_30_is_not(self):
        self.assertEqual(told(1, *FULL, drop(30), drop(29), drop(29))[30:], [[-1], [29], [-4]])


class NotThere(unittest.TestCase):
    def test_somebody_not_spoken_of(self):
        for call, place, letter in places(GOOD):
            if letter == "x":
                for people, number in ((2, 2), (2, 15), (15, 15)):
                    with self.subTest(call=call, place=place, people=people, number=number):
                        self.assertEqual(last(people, changed(call, place, number)), [-4])

    def test_nobody_spoken_of(self):
        for call, letters in GOOD:
            with self.subTest(call=call):
                self.assertEqual(told(0, call), [[-4]])

    def test_no_such_evidence(self):
        self.assertEqual(told(2, drop(0), same(0, 1), drop(1), drop(29), drop(0), drop(0)),
                         [[-4], [0], [-4], [-4], [0], [-4]])


class OneAndTheSame(unittest.TestCase):
    def test_x_is_y_of_same_and_differ(self):
        self.assertEqual(told(16, same(0, 0), same(15, 15), differ(0, 0), differ(15, 15)), [[-5]] * 4)

    def test_u_is_v_of_if_and_both(self):
        self.assertEqual(told(3, if_so(0, 1, 2, 2), if_so(0, 0, 0, 0), both(0, 1, 1, 2, 2, 2), both(0, 0, 0, 0, 1, 1)),
                         [[-5]] * 4)


class WhichIsFirst(unittest.TestCase):
    def test_range_ahead_of_not_there(self):
        self.assertEqual(told(1, same(5, 16), same(-1, 5), differ(5, FAR), link(5, 4, 0), link(0, -1, 5),
                              key(5, 6, 0), key(5, 0, -1), single(5, 0, GREATEST_VALUE + 1), single(1, -1, 0),
                              if_so(5, 0, 0, 16), both(5, 0, 0, 0, 0, -FAR), both(5, 16, 0, 0, 0, 0)),
                         [[-1]] * 12)

    def test_range_ahead_of_one_and_the_same(self):
        self.assertEqual(told(2, same(16, 16), differ(-1, -1), if_so(16, 0, 1, 1), both(0, 0, 0, -1, 1, 1)), [[-1]] * 4)

    def test_not_there_ahead_of_one_and_the_same(self):
        self.assertEqual(told(2, same(2, 2), differ(15, 15), if_so(2, 0, 1, 1), both(0, 0, 0, 2, 1, 1)), [[-4]] * 4)

    def test_all_others_ahead_of_too_many(self):
        self.assertEqual(told(1, *FULL, same(0, 16), same(0, 1), same(0, 0), differ(0, 0), link(0, 4, 0),
                              link(0, 0, 1), key(0, 0, -1), key(1, 0, 0), single(0, 6, 0), single(1, 0, 0),
                              if_so(0, 0, 0, 0), both(0, 0, 0, 0, 0, 0), if_so(0, 0, 0, 1), both(0, 0, 0, 0, -1, 0),
                              link(0, 0, 0), key(0, 0, 0), single(0, 0, 0))[30:],
                         [[-1], [-4], [-5], [-5], [-1], [-4], [-1], [-4], [-1], [-4], [-5], [-5], [-4], [-1],
                          [-7], [-7], [-7]])


class NothingChanges(unittest.TestCase):
    def behind(self, people, pieces, refused):
        """What is answered behind the refused call, with the next numbers of a person and of evidence."""
        asked = [FITS, RUN, BOOKS, person(), key(0, 5, 5), drop(0)]
        return told(people, *pieces, *refused, *asked)[-len(asked):]

    def test_behind_every_refusal(self):
        pieces = [same(0, 1), single(0, 0, 1), single(2, 0, 2)]
        alike = self.behind(3, pieces, [])
        for call in (same(1, 1), same(1, 3), same(2, 16), same(-FAR, 2), differ(0, 0), differ(0, 3), differ(0, 16),
                     link(0, 4, 1), link(0, 0, 3), key(0, 6, 1), key(3, 0, 1), single(1, 0, -1), single(3, 0, 0),
                     single(0, 0, GREATEST_VALUE + 1), if_so(0, 1, 2, 2), if_so(0, 3, 1, 2), if_so(0, 1, 2, 16),
                     both(0, 1, 0, 1, 2, 2), both(0, 1, 0, 3, 1, 2), both(0, 1, -1, 1, 1, 2), drop(3), drop(30),
                     drop(-1)):
            with self.subTest(call=call):
                self.assertLess(last(3, *pieces, call)[0], 0)
                self.assertEqual(self.behind(3, pieces, [call]), alike)

    def test_behind_too_many(self):
        alike = self.behind(16, FULL, [])
        for call in (person(), same(0, 1), differ(0, 1), link(0, 0, 1), link(0, 0, 0), single(0, 0, 0),
                     if_so(0, 0, 0, 1), both(0, 0, 0, 0, 0, 1)):
            with self.subTest(call=call):
                self.assertEqual(last(16, *FULL, call), [-7])
                self.assertEqual(self.behind(16, FULL, [call]), alike)


if __name__ == "__main__":
    unittest.main()
