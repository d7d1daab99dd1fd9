"""extension by hand and against plain looks: points 3, 6, 8 and 9, and Stage 4 of the interface."""

import unittest

from eachworkread.books import Book
from eachworkread.extending import extension
from eachworkread.rows import extends, is_short
from tests.helper import drawn_cases, possible_rows, sets_of_works
from tests.plain import plain_extends, plain_is_short

BOOK = Book([2, 1, 1], [(2, (0, 1)), (1, (0, 2)), (2, (0, 1, 2))])
EVERY = (0, 1, 2, 3, 4, 5)


class ExamplesTest(unittest.TestCase):

    def test_examples_of_the_document(self):
        book = Book([2, 1, 1], [(2, (0, 1)), (1, (0, 2)), (2, (0, 1, 2))])
        self.assertEqual(extension(book, [(0, 1), (0,), (2,)], (1,)), ('yes', [(0, 1), (), (0, 2)]))
        self.assertEqual(extension(book, [(), (), ()], (0, 2))[0], 'no')


class HandTest(unittest.TestCase):

    def assert_short(self, book, rows, absent):
        kind, works = extension(book, rows, absent)
        self.assertEqual(kind, "no")
        self.assertIs(type(works), tuple)
        self.assertIs(is_short(book, rows, absent, works), True)

    def test_nothing_more_is_needed(self):
        self.assertEqual(extension(BOOK, [(0, 1), (0,), (2,)], ()), ("yes", [(0, 1), (0,), (2,)]))

    def test_works_that_are_read_too_often_stay_so(self):
        book = Book([1, 1], [(1, (0,)), (1, (0,)), (2, (0, 1))])
        self.assertEqual(extension(book, [(0,), (0,), ()], ()), ("yes", [(0,), (0,), (1,)]))
        self.assertEqual(extension(book, [(0,), (0,), (0,)], ()), ("yes", [(0,), (0,), (0, 1)]))
        self.assertEqual(extension(book, [(0,), (0,), (0,)], (1,)), ("yes", [(0,), (), (0, 1)]))
        self.assert_short(Book([1, 1], [(1, (0, 1)), (1, (0,))]), [(0,), (0,)], ())

    def test_what_absent_readers_read_does_not_count(self):
        book = Book([1], [(1, (0,))] * 3)
        self.assertEqual(extension(book, [(0,), (), ()], (0, 1)), ("yes", [(), (), (0,)]))
        self.assertEqual(extension(book, [(0,), (0,), ()], (0,)), ("yes", [(), (0,), ()]))
        self.assertEqual(extension(Book([0], [(1, (0,))]), [(0,)], (0,)), ("yes", [()]))

    def test_a_work_that_was_taken_is_handed_on(self):
        book = Book([1] * 3, [(1, (0, 1)), (1, (1, 2)), (1, (0,))])
        self.assertEqual(extension(book, [()] * 3, ()), ("yes", [(1,), (2,), (0,)]))

    def test_a_work_that_was_read_before_is_not_handed_on(self):
        book = Book([1, 1], [(1, (0, 1)), (1, (0,))])
        self.assertEqual(extension(book, [(), ()], ()), ("yes", [(1,), (0,)]))
        self.assert_short(book, [(0,), ()], ())

    def test_no_reader(self):
        self.assertEqual(extension(Book([0], []), [], ()), ("yes", []))
        self.assertEqual(extension(Book([1], []), [], ()), ("no", (0,)))
        self.assert_short(Book([0, 2, 0], []), [], ())

    def test_all_absent(self):
        self.assert_short(BOOK, [(0, 1), (0,), (2,)], (0, 1, 2))
        book = Book([0, 0, 0], BOOK.readers())
        self.assertEqual(extension(book, [(0, 1), (0,), (2,)], (0, 1, 2)), ("yes", [(), (), ()]))

    def test_one_work(self):
        book = Book([2], [(1, (0,)), (0, (0,)), (6, ()), (3, (0,))])
        self.assertEqual(extension(book, [()] * 4, ()), ("yes", [(0,), (), (), (0,)]))
        self.assertEqual(extension(book, [()] * 4, (0,)), ("no", (0,)))

    def test_demands_of_zero(self):
        book = Book([0, 0], [(2, (0, 1)), (2, (0, 1))])
        self.assertEqual(extension(book, [(), ()], ()), ("yes", [(), ()]))
        self.assertEqual(extension(book, [(0,), (1,)], ()), ("yes", [(0,), (1,)]))

    def test_limits_of_zero(self):
        book = Book([1, 1], [(0, (0, 1)), (2, (0, 1))])
        self.assertEqual(extension(book, [(), ()], ()), ("yes", [(), (0, 1)]))
        self.assert_short(book, [(), ()], (1,))

    def test_six_works_and_six_readers(self):
        book = Book([6] * 6, [(6, EVERY)] * 6)
        self.assertEqual(extension(book, [()] * 6, ()), ("yes", [EVERY] * 6))
        self.assert_short(book, [()] * 6, (5,))
        book = Book([5] * 6, [(6, EVERY)] * 6)
        self.assertEqual(extension(book, [EVERY] * 6, (2,)), ("yes", [EVERY] * 2 + [()] + [EVERY] * 3))
        self.assert_short(Book([5] * 6, [(6, EVERY)] * 5 + [(6, EVERY[1:])]), [()] * 6, (2,))

    def test_arguments_by_name(self):
        found = extension(absent=(1,), rows=[(0, 1), (0,), (2,)], book=BOOK)
        self.assertEqual(found, ("yes", [(0, 1), (), (0, 2)]))

    def test_told_lists_are_new(self):
        for absent in ((), (1,)):
            rows = [(0, 1), (0,), (2,)]
            first, second = extension(BOOK, rows, absent), extension(BOOK, rows, absent)
            self.assertEqual(first, second)
            self.assertEqual(len({id(rows), id(first[1]), id(second[1])}), 3)
            first[1].clear()
            self.assertEqual(rows, [(0, 1), (0,), (2,)])
            self.assertEqual(extension(BOOK, rows, absent), second)

    def test_rows_beyond_the_limits_raise_no_error(self):
        book = Book([1, 1], [(0, (0, 1)), (1, (0, 1))])
        self.assert_short(book, [(0, 1), ()], ())
        self.assert_short(Book([0, 0], book.readers()), [(0, 1), ()], (1,))
        self.assertEqual(extension(Book([0, 1], book.readers()), [(0, 1), ()], (0,)), ("yes", [(), (1,)]))


class DrawnTest(unittest.TestCase):

    def assert_extended(self, book, rows, absent, value):
        self.assertIs(type(value), list)
        self.assertEqual({type(row) for row in value} | {tuple}, {tuple})
        for (limit, may), row in zip(book.readers(), value, strict=True):
            self.assertEqual(row, tuple(sorted(set(row) & set(may))))
            self.assertLessEqual(len(row), limit)
        self.assertTrue(plain_extends(book, rows, absent, value))
        self.assertIs(extends(book, rows, absent, value), True)

    def test_what_is_told(self):
        seen = {"yes": 0, "no": 0}
        for book, rows, absent in drawn_cases(21, 1500, 6):
            before = repr([book.demands(), book.readers(), rows, absent])
            found = extension(book, rows, absent)
            self.assertEqual(repr([book.demands(), book.readers(), rows, absent]), before)
            self.assertEqual(repr(extension(book, rows, absent)), repr(found))
            self.assertIs(type(found), tuple)
            kind, told = found
            seen[kind] += 1
            short = [works for works in sets_of_works(book) if plain_is_short(book, rows, absent, works)]
            self.assertEqual(kind, "no" if short else "yes")
            if kind == "no":
                self.assertIn(told, short)
            else:
                self.assert_extended(book, rows, absent, told)
        self.assertGreater(min(seen.values()), 200)

    def test_against_all_rows(self):
        seen = set()
        for book, rows, absent in drawn_cases(22, 500, 3):
            kind, told = extension(book, rows, absent)
            seen.add(kind)
            found = [value for value in possible_rows(book) if plain_extends(book, rows, absent, value)]
            self.assertEqual(kind, "yes" if found else "no")
            if found:
                self.assertIn(told, found)
        self.assertEqual(seen, {"yes", "no"})
