"""borne, reason and is_reason against plain looks by the words of points 2 and 10, at drawn books."""

import unittest
from random import Random

from eachworkread.books import Book
from eachworkread.droppings import borne, is_reason, reason
from eachworkread.extending import extension
from tests.helper import altered_once_and_twice, drawn_cases, few_odd_values, possible_rows, sets_of_works, subsets
from tests.plain import plain_borne, plain_extends, plain_greatest_borne, plain_reasons, present


def drawn_books(seed, many, most):
    """Return drawn cases, every third one with readers who read nothing and can read more."""
    cases = []
    for k, (book, rows, absent) in enumerate(drawn_cases(seed, many, most)):
        if k % 3 == 0:
            book = Book(book.demands(), [(min(limit + 1, 6), tuple(range(len(book)))) for limit, _ in book.readers()])
            rows = [()] * len(rows)
        cases.append((book, rows, absent))
    return cases


class BorneTest(unittest.TestCase):

    def test_against_an_extension_behind_each_dropping(self):
        seen = set()
        for book, rows, absent in drawn_books(31, 400, 6):
            expected = plain_borne(book, rows, absent, lambda gone: extension(book, rows, gone)[0] == "yes")
            before = repr([book.demands(), book.readers(), rows, absent])
            self.assertEqual(borne(book, rows, absent), expected, before)
            self.assertEqual(repr([book.demands(), book.readers(), rows, absent]), before)
            seen.add(expected)
        self.assertLessEqual({-1, 0, 1, 2, 3, 4}, seen)

    def test_against_all_rows_behind_each_dropping(self):
        seen = set()
        for book, rows, absent in drawn_books(32, 150, 3):
            every = possible_rows(book)

            def can_extend(gone):
                return any(plain_extends(book, rows, gone, value) for value in every)

            expected = plain_borne(book, rows, absent, can_extend)
            self.assertEqual(borne(book, rows, absent), expected, (book.demands(), book.readers(), rows, absent))
            seen.add(expected)
        self.assertLessEqual({-1, 0, 1, 2}, seen)

    def test_against_the_main_fact(self):
        for book, rows, absent in drawn_books(33, 600, 6):
            expected = plain_greatest_borne(book, rows, absent)
            self.assertEqual(borne(book, rows, absent), expected, (book.demands(), book.readers(), rows, absent))


class ReasonTest(unittest.TestCase):

    def test_against_all_reasons(self):
        seen = {True: 0, False: 0}
        for book, rows, absent in drawn_books(34, 300, 5):
            greatest = borne(book, rows, absent)
            many = len(present(book, absent))
            for number in range(many + 3):
                reasons = plain_reasons(book, rows, absent, number)
                before = repr([book.demands(), book.readers(), rows, absent])
                found = reason(book, rows, absent, number)
                self.assertEqual(repr([book.demands(), book.readers(), rows, absent]), before)
                self.assertEqual(repr(reason(book, rows, absent, number)), repr(found))
                self.assertEqual(found is None, number <= greatest or greatest == many)
                if found is None:
                    self.assertEqual(reasons, [])
                else:
                    self.assertIn(found, reasons)
                    self.assertIs(is_reason(book, rows, absent, number, found), True)
                    self.assertIs(is_reason(book, rows, absent, greatest, found), False)
                seen[found is None] += 1
        self.assertGreater(min(seen.values()), 100)


class IsReasonTest(unittest.TestCase):

    def test_all_sets_and_all_droppers(self):
        seen = {True: 0, False: 0}
        for book, rows, absent in drawn_books(35, 100, 4):
            readers = subsets(range(len(rows)))
            for number in range(len(present(book, absent)) + 2):
                reasons = plain_reasons(book, rows, absent, number)
                for works in sets_of_works(book):
                    for droppers in readers:
                        found = is_reason(book, rows, absent, number, (works, droppers))
                        self.assertIs(found, (works, droppers) in reasons, (rows, absent, number, works, droppers))
                        seen[found] += 1
        self.assertGreater(min(seen.values()), 1000)

    def test_reasons_in_which_one_or_two_things_are_exchanged(self):
        random = Random(36)
        seen = {True: 0, False: 0}
        for book, rows, absent in drawn_books(36, 150, 4):
            for number in range(len(present(book, absent)) + 2):
                reasons = plain_reasons(book, rows, absent, number)
                legal = {repr(value) for value in reasons}
                near = [random.choice(reasons)] if reasons else [((0,), ())]
                near += [value for value in [reason(book, rows, absent, number)] if value is not None]
                for told in near:
                    for value in altered_once_and_twice(random, told, 15) + few_odd_values():
                        before = repr(value)
                        found = is_reason(book, rows, absent, number, value)
                        self.assertIs(found, before in legal, (book.readers(), rows, absent, number, value))
                        self.assertEqual(repr(value), before)
                        seen[found] += 1
        self.assertGreater(min(seen.values()), 200)
