"""The calls 12 to 22: every refusal, which is looked at first, and that none of them changes anything."""

import unittest

from tests.helper import (BOOKS, CLASH, FAR, FITS, RUN, TOLD, changed, check, core, differ, drop, key, known, last, link,
                          linked, person, places, same, single, told, value, verdict, ways, why, whynot)

# Each call with good numbers, and the letters of its numbers: x somebody, n how many pieces, f and k as in the words.
GOOD = (
    (verdict(0, 1), "xx"),
    (why(0, 1), "xx"),
    (whynot(0, 1), "xx"),
    (check(0, 1), "xx"),
    (check(0, 1, 0, -1), "xx"),
    (core(0, 1), "xx"),
    (known(1, 0, 1), "nxx"),
    (linked(0, 1), "xf"),
    (value(0, 1), "xk"),
    (ways(0, 1), "xx"),
)
GREATEST = {"x": 15, "n": 30, "f": 3, "k": 5}
CLASHING = (same(0, 1), differ(0, 1))


class OutOfRange(unittest.TestCase):
    def test_one_below_and_one_above_and_far_out(self):
        for call, place, letter in places(GOOD):
            for number in (-1, GREATEST[letter] + 1, -FAR, FAR):
                for people in (2, 7, 16):
                    with self.subTest(call=call, place=place, number=number, people=people):
                        self.assertEqual(last(people, same(0, 1), changed(call, place, number)), [-1])

    def test_the_least_and_the_greatest_are_answered(self):
        for call, place, letter in places(GOOD):
            for number in (0, GREATEST[letter]):
                asked = changed(call, place, number)
                with self.subTest(call=call, place=place, number=number):
                    part = last(16, same(0, 1), differ(0, 15), asked)
                    if call[0] == 22:
                        self.assertEqual(part, [-9])
                    elif call[0] == 14 and asked[1] == asked[2]:
                        self.assertEqual(part, [-5])
                    else:
                        self.assertGreaterEqual(part[0], 0)


class NotThere(unittest.TestCase):
    def test_somebody_not_spoken_of(self):
        for call, place, letter in places(GOOD):
            if letter == "x":
                for people, number in ((2, 2), (2, 15), (7, 7), (15, 15)):
                    with self.subTest(call=call, place=place, people=people, number=number):
                        self.assertEqual(last(people, same(0, 1), changed(call, place, number)), [-4])

    def test_nobody_spoken_of(self):
        for call, letters in GOOD:
            with self.subTest(call=call):
                self.assertEqual(told(0, call), [[-4]])

    def test_no_such_evidence_refuses_no_call(self):
        self.assertEqual(told(2, known(30, 0, 1), check(0, 1, 5, 6)), [[3], [0, 0]])


class ToldWithTheCall(unittest.TestCase):
    def test_a_list_not_as_told(self):
        self.assertEqual(told(2, check(0, 1, 0), check(1, 1, -FAR, FAR, 0), check(0, 0, *[0] * 59)), [[-2]] * 3)

    def test_one_and_the_same(self):
        self.assertEqual(told(16, whynot(0, 0), whynot(15, 15)), [[-5]] * 2)

    def test_one_and_the_same_elsewhere_is_answered(self):
        self.assertEqual(told(2, verdict(0, 0), why(1, 1), check(0, 0), core(1, 1), known(0, 1, 1), ways(1, 1)),
                         [[1], [1, 0], [1], [1, 0], [1], [2, 2]])

    def test_evidence_clashes(self):
        self.assertEqual(told(3, *CLASHING, verdict(0, 1), verdict(2, 2), whynot(0, 1), whynot(1, 2))[2:], [[-8]] * 4)
        self.assertEqual(told(3, single(2, 0, 0), single(2, 0, 1), verdict(0, 1), whynot(0, 1))[2:], [[-8]] * 2)

    def test_a_clash_refuses_no_other(self):
        self.assertEqual(told(3, *CLASHING, why(0, 1), check(0, 1, 0, -1), core(0, 1), CLASH, known(2, 0, 1),
                              linked(0, 0), value(0, 0), TOLD, ways(0, 1))[2:],
                         [[1, 1, 0], [1], [1, 1, 0], [1, 2, 0, 1], [0], [0], [0], [3, 2, 1, 0, 1, 2, 0, 1], [0, 0]])

    def test_more_than_seven(self):
        self.assertEqual([last(people, ways(0, 0))[0] for people in (6, 7, 8, 9, 16)], [203, 877, -9, -9, -9])


class WhichIsFirst(unittest.TestCase):
    def test_range_ahead_of_all(self):
        asked = (
            verdict(16, 2), verdict(2, -1), why(16, 2), why(2, FAR), whynot(16, 16), whynot(2, -1), whynot(-FAR, 2),
            check(16, 2, 0), check(2, 16), check(0, -1, 0), core(2, 16), known(31, 2, 2), known(-1, 2, 0),
            known(0, 2, 16), linked(2, 4), linked(16, 0), value(2, 6), value(2, -1))
        self.assertEqual(told(2, *CLASHING, *asked)[2:], [[-1]] * len(asked))
        self.assertEqual(told(8, ways(16, 8), ways(8, -1), ways(0, 16)), [[-1]] * 3)

    def test_not_there_ahead_of_what_is_told_with_the_call(self):
        asked = (verdict(0, 2), verdict(2, 2), whynot(2, 2), whynot(0, 2), check(0, 2, 0), check(2, 0, 1, 2, 3),
                 check(15, 15, FAR), known(30, 2, 2), known(2, 0, 15))
        self.assertEqual(told(2, *CLASHING, *asked)[2:], [[-4]] * len(asked))
        self.assertEqual(told(8, ways(8, 0), ways(0, 15)), [[-4]] * 2)

    def test_one_and_the_same_ahead_of_a_clash(self):
        self.assertEqual(last(2, *CLASHING, whynot(0, 0)), [-5])


class NothingChanges(unittest.TestCase):
    def behind(self, people, pieces, asked):
        """What is answered behind these calls, with the next numbers of a person and of evidence."""
        probes = [TOLD, FITS, RUN, BOOKS, person(), key(0, 5, 5), drop(0), TOLD]
        return told(people, *pieces, *asked, *probes)[-len(probes):]

    def test_behind_each_call_answered_or_refused(self):
        pieces = [same(0, 1), link(0, 0, 2), link(1, 0, 3), single(0, 0, 1), single(4, 0, 2), differ(2, 4)]
        for some in (pieces, pieces + [same(1, 4)]):
            alike = self.behind(5, some, [])
            for call in [call for call, letters in GOOD] + [
                    CLASH, TOLD, why(2, 3), whynot(0, 4), whynot(2, 4), whynot(0, 0), core(2, 3), known(0, 2, 3),
                    known(30, 0, 4), linked(1, 0), value(1, 0), ways(0, 4), check(2, 3, 0, -1, 1, 2), check(2, 3, 0),
                    check(2, 3, FAR, -FAR), verdict(5, 0), why(16, 0), core(0, -1), linked(0, 4), value(0, 6),
                    known(31, 0, 0), ways(5, 5)]:
                with self.subTest(call=call):
                    self.assertEqual(self.behind(5, some, [call]), alike)

    def test_with_as_many_as_there_may_be(self):
        pieces = [key(x % 16, x % 6, x % 5) for x in range(28)] + [differ(0, 15), single(0, 0, 0)]
        alike = self.behind(16, pieces, [])
        for call in [call for call, letters in GOOD] + [CLASH, TOLD, whynot(0, 15), known(30, 0, 15), ways(0, 15)]:
            with self.subTest(call=call):
                self.assertEqual(self.behind(16, pieces, [call]), alike)


if __name__ == "__main__":
    unittest.main()
