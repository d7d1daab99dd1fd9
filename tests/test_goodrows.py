"""Good rows by hand: points 3, 5, 12 and 13, and Stage 7 of the interface."""

import unittest

from eachworkread.books import Book
from eachworkread.errors import Short
from eachworkread.goodrows import good_rows, good_with, least_tight, pair, readings
from eachworkread.rows import is_good, is_rows, is_short
from tests.helper import subsets, told_of
from tests.plain import plain_good_rows, plain_is_good, present

BOOK = Book([1, 1, 1], [(1, (0, 1)), (1, (0, 1)), (2, (1, 2))])
SHORT = Book([1, 1, 1], [(1, (0, 1)), (1, (0, 1)), (2, (0, 1))])
EVERY = (0, 1, 2, 3, 4, 5)


class GoodRowsCase(unittest.TestCase):

    def assert_good(self, book, absent, value):
        self.assertIs(type(value), list)
        self.assertIs(is_rows(book, value), True)
        for row, (limit, may) in zip(value, book.readers(), strict=True):
            self.assertEqual(row, tuple(sorted(set(row) & set(may))))
            self.assertLessEqual(len(row), limit)
        self.assertIs(is_good(book, value), True)
        self.assertTrue(plain_is_good(book, absent, value), told_of(book, absent, value))

    def assert_yes(self, book, absent=()):
        kind, value = good_rows(book, absent)
        self.assertEqual(kind, "yes")
        self.assert_good(book, absent, value)
        return value

    def assert_short_set(self, book, absent, works):
        self.assertIs(type(works), tuple)
        self.assertIn(works, subsets(range(len(book)))[1:])
        self.assertIs(is_short(book, [()] * len(book.readers()), absent, works), True)

    def assert_no(self, book, absent=()):
        kind, works = good_rows(book, absent)
        self.assertEqual(kind, "no")
        self.assert_short_set(book, absent, works)
        self.assert_refused(book, absent)

    def assert_refused(self, book, absent):
        """Hold that all that asks for good rows tells that there are none."""
        for work in range(len(book)):
            self.assert_raises_short(book, absent, lambda: least_tight(book, absent, work))
            for reader in present(book, absent):
                self.assert_raises_short(book, absent, lambda: pair(book, absent, reader, work))
        for reader in present(book, absent):
            self.assert_raises_short(book, absent, lambda: readings(book, absent, reader))
            for works in subsets(range(len(book))):
                self.assertIsNone(good_with(book, absent, reader, works))

    def assert_raises_short(self, book, absent, call):
        with self.assertRaises(Short) as caught:
            call()
        self.assert_short_set(book, absent, caught.exception.works)

    def assert_pair(self, wanted, book, absent, reader, work):
        found = pair(book, absent, reader, work)
        self.assertEqual(repr(found), repr(wanted), told_of(book, absent, reader, work))


class ExamplesTest(unittest.TestCase):

    def test_examples_of_the_document(self):
        book = Book([1, 1, 1], [(1, (0, 1)), (1, (0, 1)), (2, (1, 2))])
        found = [least_tight(book, (), 0), least_tight(book, (), 2), pair(book, (), 2, 2), pair(book, (), 2, 1)]
        found.append(pair(book, (), 0, 0))
        self.assertEqual(found, [None, (2,), (True, False), (True, True), (True, True)])
        found = [readings(book, (), 2), readings(book, (), 0), good_with(book, (), 2, (1, 2))[2]]
        self.assertEqual(found, [(1, 2), (0, 1), (1, 2)])


class ExistTest(GoodRowsCase):

    def test_one_and_none(self):
        self.assertEqual(self.assert_yes(Book([1, 1], [(1, (0,)), (1, (0, 1))])), [(0,), (1,)])
        self.assert_no(Book([1, 1], [(1, (0,)), (1, (0,))]))
        self.assert_yes(BOOK)
        self.assert_no(SHORT)

    def test_no_reader(self):
        self.assertEqual(good_rows(Book([0], []), ()), ("yes", []))
        self.assertEqual(good_rows(Book([1], []), ()), ("no", (0,)))
        self.assert_no(Book([0, 1], []))
        self.assertEqual(least_tight(Book([0, 0], []), (), 1), (1,))

    def test_absent_readers_read_nothing(self):
        book = Book([1], [(1, (0,))] * 3)
        self.assertEqual(good_rows(book, (0, 2)), ("yes", [(), (0,), ()]))
        self.assert_no(book, (0, 1, 2))
        self.assertEqual(good_rows(Book([0], book.readers()), (0, 1, 2)), ("yes", [(), (), ()]))
        self.assert_no(BOOK, (2,))
        self.assertEqual(self.assert_yes(BOOK, (1,))[1:], [(), (1, 2)])

    def test_one_work(self):
        for demand in range(7):
            book = Book([demand], [(1, (0,))] * 4)
            if demand <= 4:
                self.assertEqual(len([row for row in self.assert_yes(book) if row == (0,)]), demand)
            else:
                self.assert_no(book)

    def test_six_works_and_six_readers(self):
        self.assertEqual(good_rows(Book([6] * 6, [(6, EVERY)] * 6), ()), ("yes", [EVERY] * 6))
        self.assert_no(Book([6] * 6, [(6, EVERY)] * 6), (3,))
        self.assert_yes(Book([5] * 6, [(5, EVERY)] * 6))
        self.assert_no(Book([5] * 5 + [6], [(5, EVERY)] * 6))

    def test_demands_of_zero(self):
        self.assertEqual(good_rows(Book([0, 0], [(2, (0, 1))] * 2), ()), ("yes", [(), ()]))
        self.assertEqual(good_rows(Book([0, 1], [(2, (0, 1)), (0, (1,))]), ()), ("yes", [(1,), ()]))


class LeastTightTest(GoodRowsCase):

    def test_a_work_that_could_be_read_once_more(self):
        book = Book([1], [(1, (0,))] * 2)
        self.assertIsNone(least_tight(book, (), 0))
        self.assertEqual(least_tight(book, (0,), 0), (0,))

    def test_what_two_tight_sets_have_in_common(self):
        book = Book([1, 1, 1], [(1, (0,)), (1, (1,)), (1, (2,))])
        self.assertEqual([least_tight(book, (), work) for work in range(3)], [(0,), (1,), (2,)])
        # The sets (0, 1) and (1, 2) are tight, and so is (1,).
        book = Book([1, 2, 1], [(1, (0, 1)), (1, (1, 2)), (1, (0,)), (1, (2,))])
        self.assertEqual([least_tight(book, (), work) for work in range(3)], [(0, 1), (1,), (1, 2)])

    def test_only_all_works_together(self):
        book = Book([1, 1, 1], [(3, (0, 1, 2))])
        self.assertEqual([least_tight(book, (), work) for work in range(3)], [(0,), (1,), (2,)])
        book = Book([1, 1, 1], [(1, (0, 1)), (1, (1, 2)), (1, (0, 2))])
        self.assertEqual([least_tight(book, (), work) for work in range(3)], [(0, 1, 2)] * 3)

    def test_a_demand_of_zero_that_nobody_could_read(self):
        book = Book([0, 0, 0], [(1, (1,)), (0, (2,))])
        self.assertEqual([least_tight(book, (), work) for work in range(3)], [(0,), None, (2,)])
        self.assertEqual([least_tight(book, (0,), work) for work in range(3)], [(0,), (1,), (2,)])

    def test_six_works(self):
        book = Book([5] * 6, [(5, EVERY)] * 6)
        self.assertEqual([least_tight(book, (), work) for work in range(6)], [EVERY] * 6)
        self.assertEqual([least_tight(Book([5] * 5 + [4], book.readers()), (), work) for work in range(6)], [None] * 6)
        self.assertEqual(least_tight(Book([5] * 4 + [6, 4], book.readers()), (), 4), (4,))


class PairTest(GoodRowsCase):

    def test_a_reader_that_may_not_read_the_work(self):
        self.assert_pair((False, True), BOOK, (), 0, 2)
        self.assert_pair((False, True), BOOK, (), 2, 0)

    def test_demands_and_limits_of_zero(self):
        book = Book([0, 1], [(0, (0, 1)), (2, (0, 1)), (0, (0, 1))])
        self.assert_pair((False, True), book, (), 0, 1)
        self.assert_pair((False, True), book, (), 1, 0)
        self.assert_pair((True, False), book, (), 1, 1)

    def test_what_another_work_bars(self):
        book = Book([1, 1], [(1, (0, 1)), (2, (0,))])
        self.assert_pair((False, True), book, (), 0, 0)
        self.assert_pair((True, False), book, (), 0, 1)
        self.assert_pair((True, False), book, (), 1, 0)

    def test_absent_readers(self):
        book = Book([1, 1], [(1, (0, 1)), (1, (0, 1)), (1, (0, 1))])
        self.assert_pair((True, True), book, (), 1, 0)
        self.assert_pair((True, True), book, (2,), 1, 0)
        book = Book([1], [(1, (0,))] * 3)
        self.assert_pair((True, True), book, (0,), 1, 0)
        self.assert_pair((True, False), book, (0, 2), 1, 0)


class ReadingsTest(GoodRowsCase):

    def test_numbers(self):
        book = Book([2, 2, 0], [(3, (0, 1, 2)), (2, (0, 1)), (1, (0,))])
        self.assertEqual([readings(book, (), reader) for reader in range(3)], [(1, 2), (1, 2), (0, 1)])
        self.assertEqual([readings(book, (2,), reader) for reader in range(2)], [(2, 2), (2, 2)])

    def test_a_reader_alone(self):
        book = Book([1, 0, 1], [(6, (0, 1, 2))])
        self.assertEqual(readings(book, (), 0), (2, 2))
        self.assertEqual(readings(Book([0, 0, 0], book.readers()), (), 0), (0, 0))

    def test_the_others_could_read_more_than_is_demanded(self):
        book = Book([1, 1], [(2, (0, 1))] * 4)
        self.assertEqual(readings(book, (), 3), (0, 2))
        self.assertEqual(readings(Book([1, 1], [(2, (0, 1))] * 3 + [(1, (0, 1))]), (), 3), (0, 1))

    def test_limits_of_zero_and_nothing_to_read(self):
        book = Book([1], [(0, (0,)), (6, ()), (1, (0,))])
        self.assertEqual([readings(book, (), reader) for reader in range(3)], [(0, 0), (0, 0), (1, 1)])


class GoodWithTest(GoodRowsCase):

    def assert_with(self, book, absent, reader, works):
        value = good_with(book, absent, reader, works)
        self.assert_good(book, absent, value)
        self.assertEqual(value[reader], works)

    def test_all_works_of_a_reader(self):
        for works in ((2,), (1, 2)):
            self.assert_with(BOOK, (), 2, works)
        for works in ((), (1,), (0,), (0, 2), (0, 1, 2), (0, 1)):
            self.assertIsNone(good_with(BOOK, (), 2, works))
        for works in ((), (0,), (1,)):
            self.assert_with(BOOK, (), 1, works)

    def test_works_that_the_reader_may_not_read(self):
        self.assertIsNone(good_with(BOOK, (), 0, (2,)))
        self.assertIsNone(good_with(BOOK, (), 0, (0, 2)))
        self.assertIsNone(good_with(BOOK, (), 0, (3,)))

    def test_more_works_than_the_limit(self):
        self.assertIsNone(good_with(BOOK, (), 0, (0, 1)))
        book = Book([1, 1], [(0, (0, 1)), (2, (0, 1))])
        self.assert_with(book, (), 0, ())
        self.assertIsNone(good_with(book, (), 0, (0,)))

    def test_works_with_a_demand_of_zero(self):
        book = Book([0, 1], [(2, (0, 1)), (1, (1,))])
        self.assertIsNone(good_with(book, (), 0, (0,)))
        self.assertIsNone(good_with(book, (), 0, (0, 1)))
        self.assert_with(book, (), 0, (1,))

    def test_no_good_rows_at_all(self):
        self.assertIsNone(good_with(SHORT, (), 0, ()))
        self.assertIsNone(good_with(SHORT, (), 0, (0,)))
        self.assertIsNone(good_with(BOOK, (2,), 0, ()))

    def test_absent_readers(self):
        book = Book([1, 1], [(2, (0, 1))] * 3)
        self.assertEqual(good_with(book, (0,), 1, (1,)), [(), (1,), (0,)])
        self.assertIsNone(good_with(book, (0, 2), 1, (1,)))
        self.assertEqual(good_with(book, (0, 2), 1, (0, 1)), [(), (0, 1), ()])

    def test_six_works_and_six_readers(self):
        book = Book([3] * 6, [(3, EVERY)] * 6)
        for works in subsets(EVERY):
            if len(works) == 3:
                self.assert_with(book, (), 4, works)
            else:
                self.assertIsNone(good_with(book, (), 4, works))


class ArgumentsTest(GoodRowsCase):

    def test_arguments_by_name(self):
        self.assertEqual(good_rows(absent=(), book=BOOK)[0], "yes")
        self.assertEqual(least_tight(work=2, absent=(), book=BOOK), (2,))
        self.assertEqual(pair(work=2, reader=2, absent=(), book=BOOK), (True, False))
        self.assertEqual(readings(reader=2, absent=(), book=BOOK), (1, 2))
        self.assertEqual(good_with(works=(1, 2), reader=2, absent=(), book=BOOK)[2], (1, 2))

    def test_arguments_stay_and_told_lists_are_new(self):
        book = Book(BOOK.demands(), BOOK.readers())
        first, second = good_rows(book, ())[1], good_rows(book, ())[1]
        third, fourth = good_with(book, (), 2, (2,)), good_with(book, (), 2, (2,))
        self.assertEqual([first, third], [second, fourth])
        self.assertEqual(len({id(one) for one in (first, second, third, fourth)}), 4)
        first.clear()
        third.clear()
        self.assertEqual([good_rows(book, ())[1], good_with(book, (), 2, (2,))], [second, fourth])
        self.assertEqual(book, BOOK)

    def test_all_good_rows_of_the_tests_own_look(self):
        self.assertEqual(plain_good_rows(Book([1, 1], [(1, (0,)), (1, (0, 1))]), ()), [[(0,), (1,)]])
        wanted = [[(), (0,), (1, 2)], [(0,), (), (1, 2)], [(0,), (1,), (2,)], [(1,), (0,), (2,)]]
        self.assertEqual(sorted(plain_good_rows(BOOK, ())), wanted)
