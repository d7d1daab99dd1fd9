"""Rows and counts by hand: points 3, 5, 6 and 7, and Stage 2 of the interface."""

import unittest

from eachworkread.books import Book
from eachworkread.rows import count, extends, is_enough, is_good, is_rows, is_short
from tests.helper import altered, nested, odd_values, possible_rows

BOOK = Book([2, 1, 1], [(2, (0, 1)), (1, (0, 2)), (2, (0, 1, 2))])
ROWS = [(0, 1), (0,), (2,)]
ONE_WORK = Book([1], [])
SIX = Book([1] * 6, [(6, (0, 1, 2, 3, 4, 5))] * 6)


class ExamplesTest(unittest.TestCase):

    def test_examples_of_the_document(self):
        book = Book([2, 1, 1], [(2, (0, 1)), (1, (0, 2)), (2, (0, 1, 2))])
        rows = [(0, 1), (0,), (2,)]
        found = [is_rows(book, rows), is_good(book, rows), is_enough(book, rows), is_rows(book, [(0, 1), (0, 2), ()])]
        self.assertEqual(found, [True, True, True, False])
        found = [count(book, rows, 0, (0,)), count(book, rows, 2, (0, 1)), is_short(book, rows, (0,), (0, 1))]
        self.assertEqual(found, [1, 1, True])
        found = [extends(book, rows, (1,), [(0, 1), (), (0, 2)]), extends(book, rows, (), [(0, 1), (0,), (0, 2)])]
        self.assertEqual(found, [True, False])


class IsRowsTest(unittest.TestCase):

    def test_rows_of_no_reader(self):
        self.assertIs(is_rows(ONE_WORK, []), True)
        self.assertIs(is_rows(ONE_WORK, [()]), False)
        self.assertIs(is_rows(ONE_WORK, ()), False)

    def test_rows_of_six_readers(self):
        every = (0, 1, 2, 3, 4, 5)
        self.assertIs(is_rows(SIX, [every] * 6), True)
        self.assertIs(is_rows(SIX, [()] * 6), True)
        self.assertIs(is_rows(SIX, [every] * 5), False)
        self.assertIs(is_rows(SIX, [every] * 7), False)
        self.assertIs(is_rows(SIX, [every] * 5 + [every + (6,)]), False)

    def test_limits(self):
        book = Book([1, 1, 1], [(0, (0, 1, 2)), (2, (0, 1, 2)), (6, (0, 1))])
        self.assertIs(is_rows(book, [(), (0, 2), (0, 1)]), True)
        self.assertIs(is_rows(book, [(0,), (), ()]), False)
        self.assertIs(is_rows(book, [(), (0, 1, 2), ()]), False)

    def test_a_reader_reads_only_what_it_may(self):
        self.assertIs(is_rows(BOOK, [(0, 2), (), ()]), False)
        self.assertIs(is_rows(BOOK, [(), (1,), ()]), False)
        self.assertIs(is_rows(BOOK, [(), (), (3,)]), False)
        self.assertIs(is_rows(BOOK, [(), (), (-1,)]), False)

    def test_rows_in_another_order_of_readers(self):
        self.assertIs(is_rows(BOOK, [(2,), (0,), (0, 1)]), False)

    def test_works_out_of_order_or_told_twice(self):
        self.assertIs(is_rows(BOOK, [(1, 0), (), ()]), False)
        self.assertIs(is_rows(BOOK, [(0, 0), (), ()]), False)

    def test_booleans_are_no_works(self):
        self.assertIs(is_rows(BOOK, [(0, True), (0,), (2,)]), False)
        self.assertIs(is_rows(BOOK, [(False, 1), (0,), (2,)]), False)

    def test_lists_and_tuples_are_not_exchanged(self):
        self.assertIs(is_rows(BOOK, ((0, 1), (0,), (2,))), False)
        self.assertIs(is_rows(BOOK, [[0, 1], (0,), (2,)]), False)
        self.assertIs(is_rows(BOOK, [(0, 1), (0,), []]), False)

    def test_strings_dicts_and_great_numbers(self):
        for row in ("", "01", {}, {0: 1, 1: 1}, None, 0, (10 ** 5000,), ("0",), ((0,),), (None, 0)):
            self.assertIs(is_rows(BOOK, [row, (0,), (2,)]), False)
        for value in (None, "", "abc", {}, {0: (), 1: (), 2: ()}, 3, BOOK, BOOK.readers(), BOOK.demands()):
            self.assertIs(is_rows(BOOK, value), False)

    def test_any_value(self):
        legal = {repr(rows) for rows in possible_rows(BOOK)}
        for value in odd_values() + altered(ROWS) + altered(BOOK.readers()) + possible_rows(BOOK):
            before = repr(value)
            self.assertIs(is_rows(BOOK, value), before in legal, value)
            self.assertEqual(repr(value), before)

    def test_deeply_nested_values(self):
        for kind in (list, tuple, dict):
            deep = nested(kind, 50)
            for value in (deep, [deep] * 3, [(deep,), (), ()], [(0, deep), (), ()]):
                self.assertIs(is_rows(BOOK, value), False)


class GoodAndEnoughTest(unittest.TestCase):

    def assert_told(self, rows, good, enough):
        self.assertIs(is_good(BOOK, rows), good)
        self.assertIs(is_enough(BOOK, rows), enough)

    def test_just_as_often(self):
        self.assert_told([(0, 1), (0,), (2,)], True, True)
        self.assert_told([(0,), (2,), (0, 1)], True, True)

    def test_more_often(self):
        self.assert_told([(0, 1), (0,), (0, 2)], False, True)
        self.assert_told([(0, 1), (0,), (1, 2)], False, True)

    def test_less_often(self):
        self.assert_told([(0, 1), (), (2,)], False, False)
        self.assert_told([(), (), ()], False, False)

    def test_one_more_and_one_less_often(self):
        self.assert_told([(0, 1), (0,), (0, 1)], False, False)

    def test_demand_zero(self):
        book = Book([0], [(1, (0,))])
        self.assertEqual([is_good(book, [()]), is_enough(book, [()])], [True, True])
        self.assertEqual([is_good(book, [(0,)]), is_enough(book, [(0,)])], [False, True])

    def test_no_reader(self):
        self.assertEqual([is_good(Book([0], []), []), is_enough(Book([0], []), [])], [True, True])
        self.assertEqual([is_good(ONE_WORK, []), is_enough(ONE_WORK, [])], [False, False])

    def test_six_readers_of_six_works(self):
        book = Book([6] * 6, SIX.readers())
        every = [(0, 1, 2, 3, 4, 5)] * 6
        self.assertEqual([is_good(book, every), is_enough(book, every)], [True, True])
        self.assertEqual([is_good(SIX, every), is_enough(SIX, every)], [False, True])


class CountTest(unittest.TestCase):

    def test_the_limit_is_lesser(self):
        self.assertEqual(count(BOOK, [(), (), ()], 1, (0, 2)), 1)
        self.assertEqual(count(BOOK, [(), (), ()], 2, (0, 1, 2)), 2)

    def test_the_works_that_it_may_read_are_fewer(self):
        self.assertEqual(count(BOOK, [(), (), ()], 0, (1, 2)), 1)
        self.assertEqual(count(BOOK, [(), (), ()], 1, (1,)), 0)

    def test_only_what_is_read_outside_of_the_set_takes_away(self):
        self.assertEqual(count(BOOK, [(0, 1), (0,), (2,)], 0, (0, 1)), 2)
        self.assertEqual(count(BOOK, [(0, 1), (0,), (2,)], 0, (0, 2)), 1)
        self.assertEqual(count(BOOK, [(0, 1), (0,), (2,)], 0, (2,)), 0)
        self.assertEqual(count(BOOK, [(0, 1), (0,), (2,)], 1, (2,)), 0)

    def test_limit_zero_and_nothing_to_read(self):
        book = Book([1, 1], [(0, (0, 1)), (6, ()), (6, (0, 1))])
        self.assertEqual([count(book, [(), (), ()], reader, (0, 1)) for reader in range(3)], [0, 0, 2])


class IsShortTest(unittest.TestCase):

    def test_just_enough_is_not_short(self):
        book = Book([1, 1], [(1, (0, 1)), (1, (0,))])
        self.assertIs(is_short(book, [(), ()], (), (0, 1)), False)
        self.assertIs(is_short(book, [(0,), ()], (), (1,)), True)
        self.assertIs(is_short(book, [(1,), ()], (), (1,)), False)

    def test_absent_readers_do_not_count(self):
        book = Book([1, 1], [(1, (0, 1)), (1, (0,))])
        self.assertIs(is_short(book, [(), ()], (1,), (0,)), False)
        self.assertIs(is_short(book, [(), ()], (1,), (0, 1)), True)
        self.assertIs(is_short(book, [(), ()], (0, 1), (0,)), True)

    def test_demand_zero_is_never_short(self):
        book = Book([0, 2], [(1, (1,))])
        self.assertEqual([is_short(book, [()], (0,), works) for works in ((0,), (1,), (0, 1))], [False, True, True])

    def test_no_reader(self):
        self.assertIs(is_short(ONE_WORK, [], (), (0,)), True)
        self.assertIs(is_short(Book([0], []), [], (), (0,)), False)


class ExtendsTest(unittest.TestCase):

    def test_nothing_more_is_needed(self):
        self.assertIs(extends(BOOK, ROWS, (), ROWS), True)

    def test_a_work_that_is_read_less_than_its_demand(self):
        self.assertIs(extends(BOOK, [(0,), (), ()], (), [(0,), (), ()]), False)

    def test_a_work_that_is_read_more_than_its_demand_stays_so(self):
        book = Book([1], [(1, (0,))] * 3)
        self.assertIs(extends(book, [(0,), (0,), ()], (), [(0,), (0,), ()]), True)
        self.assertIs(extends(book, [(0,), (0,), ()], (), [(0,), (0,), (0,)]), False)
        self.assertIs(extends(book, [(0,), (0,), ()], (), [(0,), (), ()]), False)

    def test_a_work_is_not_read_more_than_its_demand(self):
        book = Book([1], [(1, (0,))] * 3)
        self.assertIs(extends(book, [(), (), ()], (), [(0,), (), (0,)]), False)
        self.assertIs(extends(book, [(), (), ()], (), [(0,), (), ()]), True)

    def test_present_readers_read_on(self):
        self.assertIs(extends(BOOK, [(0,), (0,), ()], (), [(0, 1), (2,), (0,)]), False)
        self.assertIs(extends(BOOK, [(0,), (2,), ()], (), [(0, 1), (2,), (0,)]), True)

    def test_what_absent_readers_read_does_not_count(self):
        book = Book([1], [(1, (0,))] * 3)
        self.assertIs(extends(book, [(0,), (0,), ()], (0, 1), [(), (), (0,)]), True)
        self.assertIs(extends(book, [(0,), (0,), ()], (0,), [(), (0,), ()]), True)
        self.assertIs(extends(book, [(0,), (0,), ()], (0,), [(), (0,), (0,)]), False)

    def test_absent_readers_read_nothing(self):
        book = Book([1], [(1, (0,))] * 2)
        self.assertIs(extends(book, [(0,), ()], (0,), [(0,), ()]), False)
        self.assertIs(extends(book, [(), (0,)], (0,), [(0,), (0,)]), False)
        self.assertIs(extends(Book([0], [(1, (0,))]), [(0,)], (0,), [()]), True)

    def test_all_absent_and_no_reader(self):
        self.assertIs(extends(BOOK, ROWS, (0, 1, 2), [(), (), ()]), False)
        self.assertIs(extends(Book([0], []), [], (), []), True)
        self.assertIs(extends(ONE_WORK, [], (), []), False)

    def test_any_value(self):
        # By hand: one of readers 0 and 2 has to read work 0 behind the dropping of reader 1, and only 2 is free for it.
        legal = {repr([(0, 1), (), (0, 2)])}
        for value in odd_values() + altered(ROWS) + altered([(0, 1), (), (0, 2)]) + possible_rows(BOOK):
            before = repr(value)
            self.assertIs(extends(BOOK, ROWS, (1,), value), before in legal, value)
            self.assertEqual(repr(value), before)

    def test_huge_numbers(self):
        self.assertIs(extends(BOOK, ROWS, (1,), [(0, 1), (), (0, 10 ** 5000)]), False)


class ArgumentsTest(unittest.TestCase):

    def test_arguments_stay_as_they_were(self):
        book, rows, value = Book([2, 1, 1], BOOK.readers()), list(ROWS), [(0, 1), (), (0, 2)]
        for _ in range(2):
            found = [is_rows(book, rows), is_good(book, rows), is_enough(book, rows), count(book, rows, 2, (0, 1))]
            found += [is_short(book, rows, (0,), (0, 1)), extends(book, rows, (1,), value)]
            self.assertEqual(found, [True, True, True, 1, True, True])
            self.assertEqual([book, rows, value], [BOOK, ROWS, [(0, 1), (), (0, 2)]])

    def test_arguments_by_name(self):
        self.assertIs(is_rows(value=ROWS, book=BOOK), True)
        self.assertIs(is_good(rows=ROWS, book=BOOK), True)
        self.assertIs(is_enough(rows=ROWS, book=BOOK), True)
        self.assertEqual(count(works=(0, 1), reader=2, rows=ROWS, book=BOOK), 1)
        self.assertIs(is_short(works=(0, 1), absent=(0,), rows=ROWS, book=BOOK), True)
        self.assertIs(extends(value=[(0, 1), (), (0, 2)], absent=(1,), rows=ROWS, book=BOOK), True)
