"""relaid and bound by hand: points 3, 5, 12 and 14, and Stage 8 of the interface."""

import unittest

from eachworkread.books import Book
from eachworkread.errors import Short
from eachworkread.relaid import bound, relaid
from eachworkread.rows import is_good, is_rows, is_short
from tests.helper import told_of
from tests.plain import plain_bound, plain_is_good, plain_kept

BOOK = Book([1, 1], [(1, (0, 1)), (1, (0,))])
EVERY = (0, 1, 2, 3, 4, 5)


class RelaidCase(unittest.TestCase):

    def assert_relaid(self, book, rows, absent=(), wanted=None):
        """Hold what is told against the words of point 14; the prices show that no good rows keep more."""
        before = told_of(book, rows, absent)
        found = relaid(book, rows, absent)
        self.assertEqual(told_of(book, rows, absent), before)
        self.assertEqual(repr(relaid(book, rows, absent)), repr(found))
        self.assertEqual([type(part) for part in found], [int, list, list])
        number, value, prices = found
        self.assertIs(is_rows(book, value), True)
        for row, (limit, may) in zip(value, book.readers(), strict=True):
            self.assertEqual(row, tuple(sorted(set(row) & set(may))))
            self.assertLessEqual(len(row), limit)
        self.assertIs(is_good(book, value), True)
        self.assertTrue(plain_is_good(book, absent, value), before)
        self.assertEqual(plain_kept(rows, value, absent), number, before)
        self.assertEqual([type(price) for price in prices], [int] * len(book))
        self.assertEqual(plain_bound(book, rows, absent, prices), number, before)
        self.assertEqual(bound(book, rows, absent, prices), number, before)
        if wanted is not None:
            self.assertEqual(number, wanted, before)
        return found

    def assert_short(self, book, rows, absent=()):
        before = told_of(book, rows, absent)
        with self.assertRaises(Short) as caught:
            relaid(book, rows, absent)
        self.assertEqual(told_of(book, rows, absent), before)
        self.assertIs(type(caught.exception.works), tuple)
        self.assertIs(is_short(book, [()] * len(rows), absent, caught.exception.works), True)

    def assert_bound(self, wanted, book, rows, absent, prices):
        before = told_of(book, rows, absent, prices)
        found = bound(book, rows, absent, prices)
        self.assertEqual(repr(found), repr(wanted), before)
        self.assertEqual(plain_bound(book, rows, absent, prices), wanted)
        self.assertEqual(told_of(book, rows, absent, prices), before)


class ExamplesTest(unittest.TestCase):

    def test_examples_of_the_document(self):
        book = Book([1, 1], [(1, (0, 1)), (1, (0,))])
        found = relaid(book, [(0,), ()], ())
        told = [found[:2], bound(book, [(0,), ()], (), found[2]), bound(book, [(0,), ()], (), [0, 0])]
        self.assertEqual(told, [(0, [(1,), (0,)]), 0, 1])


class RelaidTest(RelaidCase):

    def test_rows_that_are_good_already(self):
        book = Book([2, 1, 1], [(2, (0, 1)), (1, (0, 2)), (2, (0, 1, 2))])
        for rows in ([(0, 1), (0,), (2,)], [(0,), (2,), (0, 1)], [(0, 1), (2,), (0,)]):
            self.assertEqual(self.assert_relaid(book, rows)[:2], (4, rows))

    def test_rows_of_which_nothing_can_stay(self):
        self.assertEqual(self.assert_relaid(BOOK, [(0,), ()])[:2], (0, [(1,), (0,)]))
        self.assert_relaid(Book([0, 0], BOOK.readers()), [(0,), (0,)], (), 0)
        book = Book([1, 1, 1], [(1, (0, 1)), (1, (1, 2)), (1, (2,))])
        self.assertEqual(self.assert_relaid(book, [(1,), (2,), ()])[:2], (0, [(0,), (1,), (2,)]))

    def test_nobody_reads(self):
        self.assert_relaid(BOOK, [(), ()], (), 0)
        self.assert_relaid(Book([6] * 6, [(6, EVERY)] * 6), [()] * 6, (), 0)

    def test_works_that_are_read_too_often(self):
        book = Book([1, 0], [(2, (0, 1))] * 3)
        number, value, _ = self.assert_relaid(book, [(0, 1)] * 3, (), 1)
        self.assertEqual(sorted(value), [(), (), (0,)])
        self.assert_relaid(Book([1, 2], book.readers()), [(0, 1)] * 3, (), 3)

    def test_works_that_are_read_too_seldom(self):
        book = Book([2, 1], [(1, (0, 1)), (1, (0, 1)), (1, (0,))])
        self.assert_relaid(book, [(0,), (0,), ()], (), 1)
        self.assert_relaid(book, [(1,), (0,), ()], (), 2)
        self.assert_relaid(book, [(1,), (), ()], (), 1)

    def test_keeping_all_is_worth_a_long_way(self):
        # The first good rows that come to mind keep nothing; to keep all, each reader hands its work on to the next.
        works = tuple(range(5))
        book = Book([1] * 5, [(1, tuple(sorted((k, (k + 1) % 5)))) for k in works])
        for rows in ([(k,) for k in works], [((k + 1) % 5,) for k in works]):
            self.assertEqual(self.assert_relaid(book, rows)[:2], (5, rows))
        self.assert_relaid(book, [(0,), (2,), (2,), (4,), (4,)], (), 3)

    def test_absent_readers(self):
        book = Book([1, 1], [(2, (0, 1))] * 3)
        self.assertEqual(self.assert_relaid(book, [(0, 1), (), ()], (0,))[0], 0)
        self.assertEqual(self.assert_relaid(book, [(0, 1), (0,), (1,)], (0,))[:2], (2, [(), (0,), (1,)]))
        self.assertEqual(self.assert_relaid(book, [(), (0,), ()], (0, 2))[:2], (1, [(), (0, 1), ()]))

    def test_no_reader_and_all_absent(self):
        self.assertEqual(self.assert_relaid(Book([0, 0], []), [])[:2], (0, []))
        self.assertEqual(self.assert_relaid(Book([0, 0], BOOK.readers()), [(0,), (0,)], (0, 1))[:2], (0, [(), ()]))
        self.assert_short(Book([0, 1], []), [])
        self.assert_short(BOOK, [(0,), ()], (0, 1))

    def test_no_good_rows(self):
        self.assert_short(Book([1, 1], [(1, (0, 1))]), [(0,)])
        self.assert_short(BOOK, [(1,), (0,)], (0,))
        self.assert_short(Book([2, 0], [(1, (0,)), (0, (0,))]), [(0,), ()])

    def test_limits_of_zero_and_readers_who_may_read_nothing(self):
        book = Book([1, 1], [(0, (0, 1)), (6, ()), (2, (0, 1))])
        self.assert_relaid(book, [(), (), (0,)], (), 1)
        self.assert_relaid(book, [(), (), (0, 1)], (), 2)

    def test_one_work_and_six_works(self):
        book = Book([2], [(1, (0,))] * 4)
        self.assertEqual(self.assert_relaid(book, [(), (0,), (), (0,)])[:2], (2, [(), (0,), (), (0,)]))
        self.assert_relaid(book, [(0,)] * 4, (), 2)
        book = Book([3] * 6, [(3, EVERY)] * 6)
        self.assert_relaid(book, [EVERY[:3]] * 3 + [EVERY[3:]] * 3, (), 18)
        self.assert_relaid(book, [EVERY[:3]] * 6, (), 9)
        self.assert_relaid(book, [EVERY[:3]] * 4 + [EVERY[3:]] * 2, (), 15)

    def test_prices_below_zero_and_beyond_one(self):
        # Who reads work 0 here must read work 1 instead, and so on: each work is dearer by one than the one behind it.
        book = Book([1, 1, 1], [(1, (0, 1)), (1, (1, 2)), (1, (0, 1, 2))])
        for rows in ([(1,), (2,), (0,)], [(0,), (1,), (0,)], [(0,), (1,), (1,)], [(1,), (1,), (1,)]):
            self.assert_relaid(book, rows)
        book = Book([1, 1, 1], [(1, (0, 1)), (1, (1, 2)), (1, (2,))])
        _, _, prices = self.assert_relaid(book, [(1,), (2,), ()], (), 0)
        self.assertGreaterEqual(max(prices) - min(prices), 2)

    def test_rows_beyond_the_limits_raise_no_error(self):
        book = Book([1, 1], [(0, (0, 1)), (2, (0, 1))])
        for rows in ([(0, 1), ()], [(0, 1), (0, 1)], [(0,), (1,)]):
            self.assert_relaid(book, rows)
            bound(book, rows, (0,), [1, -1])


class BoundTest(RelaidCase):

    def test_by_hand(self):
        book = Book([2, 0, 3], [(1, (0, 1, 2)), (2, (0, 2)), (0, (0, 1)), (3, ())])
        rows = [(1,), (0, 2), (), ()]
        self.assert_bound(3, book, rows, (), [0, 0, 0])
        # Reader 0 gains 2 by work 1, reader 1 nothing by its works; 2 times 1 and 3 times 2 are 8 besides.
        self.assert_bound(10, book, rows, (), [1, -1, 2])
        # Reader 0 gains 3 by work 2, reader 1 gains 3 and 4; 3 times -3 and 2 times -2 are -13.
        self.assert_bound(-3, book, rows, (), [-2, 0, -3])
        self.assert_bound(-10, book, rows, (1,), [-2, 0, -3])
        self.assert_bound(-6, book, rows, (1,), [-2, -6, -3])
        self.assert_bound(-13, book, rows, (0, 1), [-2, 0, -3])

    def test_at_most_as_many_works_as_the_limit(self):
        for limit in range(7):
            book = Book([0] * 6, [(limit, EVERY)])
            self.assert_bound(limit, book, [EVERY[:limit]], (), [0] * 6)
            self.assert_bound(3 * limit, book, [()], (), [-3] * 6)
            self.assert_bound(4 * limit, book, [EVERY[6 - limit:]], (), [-3] * 6)
            self.assert_bound(0, book, [EVERY[:limit]], (), [1] * 6)
            self.assert_bound(sum((6, 5, 4, 3, 2, 1)[:limit]), book, [()], (), [-1, -2, -3, -4, -5, -6])

    def test_a_gain_below_zero_is_not_taken(self):
        book = Book([1], [(1, (0,))])
        for price in range(-4, 5):
            self.assert_bound(price + max(0, 1 - price), book, [(0,)], (), [price])
            self.assert_bound(price + max(0, -price), book, [()], (), [price])

    def test_no_reader_and_all_absent(self):
        self.assert_bound(2 * 7 - 3 * 5, Book([2, 3], []), [], (), [7, -5])
        self.assert_bound(7, Book([1, 0], BOOK.readers()), [(0,), (0,)], (0, 1), [7, -100])

    def test_what_absent_readers_read_does_not_count(self):
        self.assert_bound(1, BOOK, [(0,), (0,)], (0,), [0, 0])
        self.assert_bound(2, BOOK, [(0,), (0,)], (), [0, 0])

    def test_great_prices(self):
        great = 10 ** 40
        self.assert_bound(2 * great, BOOK, [(0,), (0,)], (), [great, great])
        self.assert_bound(2, BOOK, [(0,), (0,)], (), [-great, -great])
        self.assert_bound(-great, BOOK, [(), ()], (1,), [-great, -great])


class ArgumentsTest(RelaidCase):

    def test_arguments_by_name(self):
        self.assertEqual(relaid(absent=(), rows=[(0,), ()], book=BOOK), relaid(BOOK, [(0,), ()], ()))
        self.assertEqual(bound(prices=[0, 0], absent=(), rows=[(0,), ()], book=BOOK), 1)

    def test_told_lists_are_new(self):
        rows = [(1,), (0,)]
        first, second = relaid(BOOK, rows, ()), relaid(BOOK, rows, ())
        told = [rows, first[1], first[2], second[1], second[2]]
        self.assertEqual(len({id(one) for one in told}), 5)
        first[1].clear()
        first[2].clear()
        self.assertEqual([rows, relaid(BOOK, rows, ())], [[(1,), (0,)], second])
