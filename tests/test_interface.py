"""personbooks.books.answers: how calls are handed in and answers given back, and what it leaves alone."""

import builtins
import contextlib
import inspect
import io
import sys
import unittest
from unittest import mock

import personbooks.books
from personbooks.books import answers
from tests.helper import (BOOKS, CLASH, FITS, RUN, TOLD, both, check, core, cut, differ, drop, if_so, key, known, line,
                          link, linked, person, same, single, value, verdict, ways, why, whynot)

LONG = line(*[person()] * 17, same(0, 1), same(0, 0), if_so(0, 1, 2, 3), both(0, 1, 2, 3, 4, 5), link(4, 0, 6),
            link(5, 0, 7), key(8, 5, 10 ** 12), key(9, 5, 10 ** 12), single(0, 0, 0), single(1, 0, 1), differ(2, 3),
            FITS, RUN, BOOKS, drop(0), drop(29), drop(-10 ** 18), FITS, RUN, BOOKS, verdict(0, 1), why(8, 9),
            core(8, 9), CLASH, ways(0, 1), drop(7), drop(8), whynot(2, 3), whynot(2, 2), verdict(8, 9),
            check(8, 9, 4, 5), check(8, 9, 10 ** 18, -10 ** 18), check(8, 9, 4), check(8, 9), known(3, 2, 3),
            linked(4, 0), value(0, 0), TOLD)


class Interface(unittest.TestCase):
    def test_one_plain_parameter(self):
        self.assertEqual(str(inspect.signature(answers)), "(calls)")
        self.assertEqual(personbooks.books.answers.__module__, "personbooks.books")

    def test_a_list_of_whole_numbers(self):
        given = answers(list(LONG))
        self.assertIs(type(given), list)
        self.assertEqual({type(number) for number in given}, {int})

    def test_one_answer_for_each_call(self):
        self.assertEqual(len(cut(answers(list(LONG)))), 55)

    def test_a_refusal_is_alone_and_all_else_begins_with_0_or_more(self):
        for part in cut(answers(list(LONG))):
            self.assertTrue(part[0] >= 0 or len(part) == 1)

    def test_any_call_may_be_first(self):
        self.assertEqual([answers(call) for call in (person(), same(0, 1), differ(0, 1), link(0, 0, 0), key(0, 0, 0),
                                                     single(0, 0, 0), if_so(0, 0, 0, 0), both(0, 0, 0, 0, 0, 0),
                                                     drop(0), FITS, RUN, BOOKS)],
                         [[1, 0]] + [[1, -4]] * 8 + [[1, 1], [1, 0], [1, 0]])

    def test_two_hundred_calls(self):
        pieces = [link(x % 16, x % 2, (x * 7 + 1) % 16) for x in range(28)] + [same(0, 1), same(2, 3)]
        given = cut(answers(line(*[person()] * 16, *pieces, *[RUN] * 77, *[BOOKS] * 77)))
        self.assertEqual(len(given), 200)
        self.assertEqual(given[46:123], [given[46]] * 77)
        self.assertEqual(given[123:], [given[123]] * 77)


class LeftAlone(unittest.TestCase):
    def test_what_is_handed_in(self):
        class Unchanging(list):
            def refuse(self, *rest):
                raise AssertionError("changed")

            append = extend = insert = pop = remove = clear = sort = reverse = refuse
            __setitem__ = __delitem__ = __iadd__ = __imul__ = refuse

        handed = list(LONG)
        given = answers(handed)
        self.assertEqual(handed, LONG)
        self.assertEqual(answers(Unchanging(LONG)), given)

    def test_nothing_is_kept(self):
        first = answers(list(LONG))
        self.assertEqual(answers(list(LONG)), first)
        self.assertEqual(answers(BOOKS), [1, 0])
        self.assertEqual(answers(person()), [1, 0])
        self.assertEqual(answers(list(LONG)), first)

    def test_what_is_given_back_is_nobody_elses(self):
        first = answers(list(LONG))
        copy = list(first)
        first.clear()
        self.assertEqual(answers(list(LONG)), copy)

    def test_nothing_is_printed_read_or_imported(self):
        def refuse(*rest, **more):
            raise AssertionError("not to be called")

        out, err = io.StringIO(), io.StringIO()
        loaded = set(sys.modules)
        with contextlib.redirect_stdout(out), contextlib.redirect_stderr(err):
            with mock.patch.object(builtins, "open", refuse), mock.patch.object(builtins, "input", refuse), \
                    mock.patch.object(builtins, "print", refuse), mock.patch.object(builtins, "__import__", refuse):
                answers(list(LONG))
        self.assertEqual((out.getvalue(), err.getvalue()), ("", ""))
        self.assertEqual(set(sys.modules), loaded)


if __name__ == "__main__":
    unittest.main()
