"""further_limits by hand and against plain looks: points 3, 7, 8 and 11, and Stage 6 of the interface."""

import unittest
from itertools import product

from eachworkread.books import Book
from eachworkread.errors import TooFew
from eachworkread.extending import extension
from eachworkread.further import further_limits
from eachworkread.rows import extends, is_rows
from tests.helper import drawn_cases, drawn_mixed_cases, possible_rows, told_of
from tests.plain import plain_differences, plain_extends, present

EVERY = (0, 1, 2, 3, 4, 5)


def wider(book, limits):
    return Book(book.demands(), [(limit, may) for limit, (_, may) in zip(limits, book.readers(), strict=True)])


def first_with_too_few(book, absent):
    """Return the first work that fewer present readers may read than its demand; None if there is none."""
    readers = book.readers()
    for work, demand in enumerate(book.demands()):
        if sum(1 for reader in present(book, absent) if work in readers[reader][1]) < demand:
            return work
    return None


def lists_of_limits(book, more):
    """Return all lists of limits that are so much greater together than those of the book, and none of them less."""
    raises = [some for some in product(range(more + 1), repeat=len(book.readers())) if sum(some) == more]
    return [[limit + plus for (limit, _), plus in zip(book.readers(), some)] for some in raises]


def needy_cases(seed, many, most):
    """Return drawn cases in which readers may read much and have low limits, so that nearly each unit needs a raise."""
    cases = []
    for book, rows, absent in drawn_cases(seed, many, most):
        limits = [max(limit // 2, len(row)) for (limit, _), row in zip(book.readers(), rows)]
        readers = [(limit, tuple(range(len(book)))) for limit in limits]
        demands = [min(demand, len(rows) - len(absent)) for demand in book.demands()]
        cases.append((Book(demands, readers), rows, absent))
    return cases


class FurtherCase(unittest.TestCase):

    def assert_further(self, wanted, book, rows, absent=()):
        """Hold all that is told against the words of point 11; the number against the one that is wanted."""
        before = told_of(book, rows, absent)
        found = further_limits(book, rows, absent)
        self.assertEqual(told_of(book, rows, absent), before)
        self.assertEqual(repr(further_limits(book, rows, absent)), repr(found))
        self.assertEqual([type(part) for part in found], [int, list, list, tuple])
        number, limits, behind, works = found
        self.assertEqual(number, wanted, before)
        old = [limit for limit, _ in book.readers()]
        self.assertEqual(sum(limits), sum(old) + number, before)
        self.assertEqual([k for k, limit in enumerate(limits) if limit < old[k]], [], before)
        self.assert_extended(wider(book, limits), rows, absent, behind)
        if number == 0:
            self.assertEqual(works, ())
        else:
            self.assertEqual(plain_differences(book, rows, absent)[works], number)
        return found

    def assert_extended(self, book, rows, absent, value):
        self.assertIs(is_rows(book, value), True)
        for (limit, may), row in zip(book.readers(), value, strict=True):
            self.assertEqual(row, tuple(sorted(set(row) & set(may))))
            self.assertLessEqual(len(row), limit)
        self.assertTrue(plain_extends(book, rows, absent, value))
        self.assertIs(extends(book, rows, absent, value), True)

    def assert_too_few(self, work, book, rows, absent=()):
        before = told_of(book, rows, absent)
        with self.assertRaises(TooFew) as caught:
            further_limits(book, rows, absent)
        self.assertEqual(repr(caught.exception.work), repr(work), before)
        self.assertEqual(told_of(book, rows, absent), before)


class ExamplesTest(FurtherCase):

    def test_examples_of_the_document(self):
        book = Book([1, 2], [(1, (0, 1)), (0, (1,))])
        self.assertEqual(further_limits(book, [(0,), ()], ())[:3], (2, [2, 1], [(0, 1), (1,)]))
        with self.assertRaises(TooFew) as caught:
            further_limits(book, [(0,), ()], (1,))
        self.assertEqual(caught.exception.work, 1)


class HandTest(FurtherCase):

    def test_nothing_to_raise(self):
        book = Book([2, 1, 1], [(2, (0, 1)), (1, (0, 2)), (2, (0, 1, 2))])
        self.assertEqual(self.assert_further(0, book, [(0, 1), (0,), (2,)])[1:], ([2, 1, 2], [(0, 1), (0,), (2,)], ()))
        self.assert_further(0, book, [(), (), ()])

    def test_a_raise_lets_a_chain_end_elsewhere(self):
        book = Book([1, 1, 1], [(1, (0, 1)), (1, (1, 2))])
        number, limits, behind, works = self.assert_further(1, book, [(), ()])
        self.assertEqual([number, sum(limits), works], [1, 3, (0, 1, 2)])
        self.assertEqual(sorted(work for row in behind for work in row), [0, 1, 2])

    def test_what_is_kept_needs_more(self):
        book = Book([1, 1], [(1, (0, 1)), (1, (0,))])
        self.assert_further(0, book, [(), ()])
        self.assertEqual(self.assert_further(1, book, [(0,), ()])[3], (1,))
        self.assertEqual(self.assert_further(1, book, [(0,), (0,)])[2], [(0, 1), (0,)])

    def test_a_set_with_the_difference_and_not_all_works(self):
        book = Book([2, 1], [(0, (0,)), (0, (0,)), (3, (1,))])
        self.assertEqual(self.assert_further(2, book, [(), (), ()]), (2, [1, 1, 3], [(0,), (0,), (1,)], (0,)))

    def test_works_that_are_read_too_often(self):
        book = Book([1, 1], [(1, (0,)), (1, (0, 1))])
        self.assertEqual(self.assert_further(1, book, [(0,), (0,)])[:3], (1, [1, 2], [(0,), (0, 1)]))
        self.assert_further(0, Book([0, 0], [(1, (0,)), (1, (0, 1))]), [(0,), (0,)])

    def test_what_absent_readers_read_does_not_count(self):
        book = Book([1], [(1, (0,)), (0, (0,)), (1, (0,))])
        self.assertEqual(self.assert_further(1, book, [(0,), (), ()], (0, 2))[:3], (1, [1, 1, 1], [(), (0,), ()]))
        self.assert_further(0, book, [(0,), (), ()], (0,))

    def test_no_reader_and_all_absent(self):
        self.assertEqual(further_limits(Book([0], []), [], ()), (0, [], [], ()))
        self.assert_too_few(0, Book([1], []), [])
        self.assert_too_few(2, Book([0, 0, 6], []), [])
        book = Book([0, 0], [(1, (0,)), (0, (0, 1))])
        self.assertEqual(further_limits(book, [(0,), ()], (0, 1)), (0, [1, 0], [(), ()], ()))
        self.assert_too_few(1, Book([0, 1], [(1, (0,)), (0, (0, 1))]), [(0,), ()], (0, 1))

    def test_the_first_work_with_too_few_is_told(self):
        book = Book([1, 2, 3], [(1, (0, 1)), (1, (1, 2)), (6, (2,))])
        self.assert_too_few(2, book, [(), (), ()])
        self.assert_too_few(1, book, [(), (), ()], (1,))
        self.assert_too_few(0, book, [(), (), ()], (0,))
        self.assert_too_few(2, book, [(0,), (2,), (2,)])

    def test_just_as_many_as_the_demand_are_enough(self):
        book = Book([2], [(0, (0,)), (0, (0,))])
        self.assertEqual(self.assert_further(2, book, [(), ()]), (2, [1, 1], [(0,), (0,)], (0,)))
        self.assert_too_few(0, Book([3], book.readers()), [(), ()])

    def test_limits_of_zero_and_readers_who_may_read_nothing(self):
        book = Book([1, 1], [(0, (0, 1)), (6, ()), (0, ())])
        self.assertEqual(self.assert_further(2, book, [(), (), ()])[:3], (2, [2, 6, 0], [(0, 1), (), ()]))

    def test_six_works_and_six_readers(self):
        for limit in range(7):
            book = Book([6] * 6, [(limit, EVERY)] * 6)
            found = self.assert_further(6 * (6 - limit), book, [()] * 6)
            self.assertEqual(found[1:3], ([6] * 6, [EVERY] * 6))
        self.assert_further(30, Book([5] * 6, [(0, EVERY)] * 6), [()] * 6)
        self.assert_further(15, Book([5] * 6, [(3, EVERY)] * 6), [EVERY[:3]] * 6, (4,))

    def test_rows_beyond_the_limits_raise_no_error(self):
        book = Book([1, 1], [(0, (0, 1)), (1, (0, 1))])
        for rows in ([(0, 1), ()], [(0,), (0, 1)], [(0, 1), (0, 1)]):
            for absent in ((), (0,), (1,)):
                further_limits(book, rows, absent)

    def test_arguments_by_name(self):
        book = Book([1, 2], [(1, (0, 1)), (0, (1,))])
        told = further_limits(absent=(), rows=[(0,), ()], book=book)
        self.assertEqual(told, further_limits(book, [(0,), ()], ()))
        with self.assertRaises(TooFew):
            further_limits(absent=(1,), rows=[(0,), ()], book=book)

    def test_told_lists_are_new(self):
        book, rows = Book([1, 1], [(1, (0,)), (1, (1,))]), [(0,), (1,)]
        first, second = further_limits(book, rows, ()), further_limits(book, rows, ())
        told = [rows, first[1], first[2], second[1], second[2]]
        self.assertEqual(len({id(one) for one in told}), 5)
        first[1].clear()
        first[2].clear()
        self.assertEqual([rows, further_limits(book, rows, ())], [[(0,), (1,)], second])


class DrawnTest(FurtherCase):

    def test_what_is_told(self):
        seen, refused = {}, {}
        for book, rows, absent in drawn_cases(41, 1500, 6) + drawn_mixed_cases(42, 500, 6, 6):
            work = first_with_too_few(book, absent)
            if work is not None:
                self.assert_too_few(work, book, rows, absent)
                refused[work] = refused.get(work, 0) + 1
            else:
                wanted = max(0, *plain_differences(book, rows, absent).values())
                self.assert_further(wanted, book, rows, absent)
                seen[wanted] = seen.get(wanted, 0) + 1
        self.assertGreater(min(seen[number] for number in range(5)), 10)
        self.assertLessEqual({0, 1, 2, 3}, set(refused))

    def test_many_need_more_and_are_enough(self):
        seen = {}
        for book, rows, absent in needy_cases(43, 800, 6):
            wanted = max(0, *plain_differences(book, rows, absent).values())
            self.assert_further(wanted, book, rows, absent)
            seen[wanted] = seen.get(wanted, 0) + 1
        self.assertGreater(min(seen[number] for number in range(6)), 20)

    def test_no_fewer_raises_are_enough(self):
        seen = {}
        for book, rows, absent in needy_cases(44, 300, 3):
            if first_with_too_few(book, absent) is None:
                number = further_limits(book, rows, absent)[0]
                seen[number] = seen.get(number, 0) + 1
                if number > 0:
                    for limits in lists_of_limits(book, number - 1):
                        if max(limits) < 7:
                            self.assert_not_extendable(wider(book, limits), rows, absent)
        self.assertGreater(min(seen[number] for number in range(3)), 10)

    def assert_not_extendable(self, book, rows, absent):
        found = [value for value in possible_rows(book) if plain_extends(book, rows, absent, value)]
        self.assertEqual(found, [], told_of(book, rows, absent))
        self.assertEqual(extension(book, rows, absent)[0], "no")
