"""count, is_short and extends against plain counting, at drawn books with present and absent readers."""

import unittest

from eachworkread.books import Book
from eachworkread.rows import count, extends, is_enough, is_good, is_rows, is_short
from tests.helper import drawn_cases, possible_rows, sets_of_works
from tests.plain import plain_count, plain_extends, plain_is_short


class CountingTest(unittest.TestCase):

    def test_count(self):
        for book, rows, _ in drawn_cases(1, 150, 6):
            for works in sets_of_works(book):
                for reader in range(len(rows)):
                    found = count(book, rows, reader, works)
                    self.assertEqual(found, plain_count(book, rows, reader, works), (book.readers(), rows, works))

    def test_is_short(self):
        seen = []
        for book, rows, absent in drawn_cases(2, 150, 6):
            for works in sets_of_works(book):
                seen.append(is_short(book, rows, absent, works))
                self.assertIs(seen[-1], plain_is_short(book, rows, absent, works), (rows, absent, works))
        self.assertIn(True, seen)
        self.assertIn(False, seen)

    def test_extends(self):
        seen = []
        for book, rows, absent in drawn_cases(3, 400, 3):
            for value in possible_rows(book):
                seen.append(extends(book, rows, absent, value))
                self.assertIs(seen[-1], plain_extends(book, rows, absent, value), (rows, absent, value))
        self.assertIn(True, seen)
        self.assertIn(False, seen)

    def test_rows_can_be_extended_just_if_no_set_is_short(self):
        seen = []
        for book, rows, absent in drawn_cases(4, 400, 3):
            seen.append(any([extends(book, rows, absent, value) for value in possible_rows(book)]))
            short = any([is_short(book, rows, absent, works) for works in sets_of_works(book)])
            self.assertIs(seen[-1], not short, (book.demands(), book.readers(), rows, absent))
        self.assertIn(True, seen)
        self.assertIn(False, seen)

    def test_rows_good_and_enough(self):
        for book, rows, _ in drawn_cases(5, 200, 6):
            told = [work for row in rows for work in row]
            times = [told.count(work) for work in range(len(book))]
            self.assertIs(is_rows(book, rows), True)
            self.assertIs(is_good(book, rows), times == book.demands())
            self.assertIs(is_good(Book(times, book.readers()), rows), True)
            self.assertIs(is_enough(book, rows), all(many >= least for many, least in zip(times, book.demands())))
