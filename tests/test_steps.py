"""Chains and closed sets by hand: points 3 and 9, and Stage 3 of the interface."""

import unittest

from eachworkread.books import Book
from eachworkread.steps import is_chain, is_closed, step
from tests.helper import altered, nested, odd_values, subsets

# Readers 0 and 1 are full and can hand works on; reader 2 is free; reader 3 is the one that may be absent.
BOOK = Book([1, 1, 1], [(1, (0, 1)), (1, (1, 2)), (2, (0, 2)), (3, (0, 1, 2))])
KEPT = [(), (), (0,), ()]
ROWS = [(1,), (2,), (0,), ()]
EVERY = (0, 1, 2, 3, 4, 5)


class StepCase(unittest.TestCase):

    def assert_chain(self, wanted, value, work=0, book=BOOK, kept=KEPT, rows=ROWS, absent=(3,)):
        self.assertIs(is_chain(book, kept, rows, absent, work, value), wanted, value)

    def assert_closed(self, wanted, value, book=BOOK, kept=KEPT, rows=ROWS, absent=(3,)):
        self.assertIs(is_closed(book, kept, rows, absent, value), wanted, value)


class ExamplesTest(unittest.TestCase):

    def test_examples_of_the_document(self):
        book = Book([1, 1, 0], [(1, (0, 1)), (1, (1, 2))])
        self.assertEqual(step(book, [(), ()], [(1,), ()], (), 0), ('chain', [(0, 0, 1), (1, 1, None)]))
        found = [step(book, [(1,), ()], [(1,), ()], (), 0), is_closed(book, [(1,), ()], [(1,), ()], (), (0, 1))]
        self.assertEqual(found, [('closed', (0,)), False])


class StepTest(StepCase):

    def test_a_free_reader_takes_at_once(self):
        self.assertEqual(step(BOOK, KEPT, ROWS, (3,), 2), ("chain", [(2, 2, None)]))

    def test_works_are_handed_on(self):
        found = step(BOOK, KEPT, ROWS, (3,), 0)
        self.assertEqual(found, ("chain", [(0, 0, 1), (1, 1, 2), (2, 2, None)]))

    def test_kept_works_are_not_given(self):
        self.assertEqual(step(BOOK, [(), (2,), (), ()], ROWS, (3,), 0), ("closed", (0, 1)))
        self.assertEqual(step(BOOK, [(1,), (), (), ()], ROWS, (3,), 0), ("closed", (0,)))

    def test_kept_rows_that_are_the_rows(self):
        self.assertEqual(step(BOOK, ROWS, ROWS, (3,), 2), ("chain", [(2, 2, None)]))
        self.assertEqual(step(BOOK, ROWS, ROWS, (3,), 0)[0], "closed")
        self.assertEqual(step(BOOK, ROWS, ROWS, (3,), 1)[0], "closed")

    def test_what_absent_readers_read_in_the_kept_rows_does_not_count(self):
        self.assertEqual(step(BOOK, [(), (), (), (0, 1, 2)], ROWS, (3,), 2), ("chain", [(2, 2, None)]))
        self.assertEqual(step(BOOK, [(1,), (), (), (0, 1, 2)], ROWS, (3,), 0), ("closed", (0,)))

    def test_absent_readers_take_nothing(self):
        self.assertEqual(step(BOOK, ROWS, ROWS, (), 0), ("chain", [(3, 0, None)]))
        self.assertEqual(step(BOOK, KEPT, [(1,), (2,), (), ()], (2, 3), 0), ("closed", (0, 1, 2)))

    def test_no_reader_and_all_absent(self):
        self.assertEqual(step(Book([0], []), [], [], (), 0), ("closed", (0,)))
        for work in range(3):
            kind, works = step(BOOK, ROWS, [()] * 4, (0, 1, 2, 3), work)
            self.assertEqual(kind, "closed")
            self.assertIn(work, works)

    def test_one_work(self):
        book = Book([3], [(1, (0,)), (1, (0,))])
        self.assertEqual(step(book, [(), ()], [(0,), ()], (), 0), ("chain", [(1, 0, None)]))
        self.assertEqual(step(book, [(), ()], [(0,), (0,)], (), 0), ("closed", (0,)))

    def test_six_works_in_one_chain(self):
        book = Book([0] * 6, [(1, (0, 1)), (1, (1, 2)), (1, (2, 3)), (1, (3, 4)), (1, (4, 5)), (1, (5,))])
        rows = [(1,), (2,), (3,), (4,), (5,), ()]
        chain = [(0, 0, 1), (1, 1, 2), (2, 2, 3), (3, 3, 4), (4, 4, 5), (5, 5, None)]
        self.assertEqual(step(book, [()] * 6, rows, (), 0), ("chain", chain))
        self.assertEqual(step(book, [()] * 6, rows, (5,), 0), ("closed", EVERY))
        self.assertEqual(step(book, [()] * 3 + [(4,)] + [()] * 2, rows, (), 0), ("closed", (0, 1, 2, 3)))

    def test_limits_and_demands_of_zero(self):
        book = Book([0, 0], [(0, (0, 1)), (1, (1,))])
        self.assertEqual(step(book, [(), ()], [(), ()], (), 1), ("chain", [(1, 1, None)]))
        self.assertEqual(step(book, [(), ()], [(), ()], (), 0), ("closed", (0,)))

    def test_a_reader_is_asked_for_two_works(self):
        # Reader 0 can give 1 or 2, which both come back to it before reader 2 is found.
        book = Book([1] * 4, [(2, (0, 1, 2, 3)), (2, (1, 2, 3)), (1, (3,))])
        rows = [(1, 2), (2, 3), ()]
        found = step(book, [()] * 3, rows, (), 0)
        self.assertEqual(found, ("chain", [(0, 0, 1), (1, 1, 3), (2, 3, None)]))

    def test_arguments_by_name(self):
        self.assertEqual(step(work=2, absent=(3,), rows=ROWS, kept=KEPT, book=BOOK), ("chain", [(2, 2, None)]))
        self.assertIs(is_chain(value=[(2, 2, None)], work=2, absent=(3,), rows=ROWS, kept=KEPT, book=BOOK), True)
        self.assertIs(is_closed(value=(0,), absent=(3,), rows=ROWS, kept=ROWS, book=BOOK), True)

    def test_told_lists_are_new(self):
        first, second = step(BOOK, KEPT, ROWS, (3,), 0), step(BOOK, KEPT, ROWS, (3,), 0)
        self.assertEqual(first, second)
        self.assertIsNot(first[1], second[1])
        first[1].clear()
        self.assertEqual(step(BOOK, KEPT, ROWS, (3,), 0), second)

    def test_rows_beyond_the_limits_raise_no_error(self):
        book = Book([1, 1], [(0, (0, 1)), (1, (0, 1))])
        for kept in ([(), ()], [(0,), ()], [(0, 1), ()]):
            for work in range(2):
                rows = [(0, 1), (1 - work,)]
                kind, found = step(book, kept, rows, (), work)
                self.assert_chain(kind == "chain", found, work, book, kept, rows, ())
                self.assert_closed(kind == "closed", found, book, kept, rows, ())


class IsChainTest(StepCase):

    def test_chains(self):
        self.assert_chain(True, [(2, 2, None)], 2)
        self.assert_chain(True, [(1, 1, 2), (2, 2, None)], 1)
        self.assert_chain(True, [(0, 0, 1), (1, 1, 2), (2, 2, None)], 0)
        self.assert_chain(True, [(3, 0, None)], 0, absent=())

    def test_it_has_a_link(self):
        for work in range(3):
            self.assert_chain(False, [], work)
            self.assert_chain(False, (), work)

    def test_the_first_one_takes_the_work(self):
        self.assert_chain(False, [(2, 2, None)], 0)
        self.assert_chain(False, [(1, 1, 2), (2, 2, None)], 0)
        self.assert_chain(False, [(1, 1, 2), (2, 2, None)], 2)

    def test_the_next_one_takes_what_is_given(self):
        book = Book([1] * 4, [(1, (0, 1)), (1, (2,)), (1, (1,))])
        rows = [(1,), (), ()]
        self.assert_chain(True, [(0, 0, 1), (2, 1, None)], 0, book, [()] * 3, rows, ())
        self.assert_chain(False, [(0, 0, 1), (1, 2, None)], 0, book, [()] * 3, rows, ())
        self.assert_chain(False, [(0, 0, 1), (2, 1, None), (1, 2, None)], 0, book, [()] * 3, rows, ())

    def test_only_the_last_one_gives_none(self):
        self.assert_chain(False, [(0, 0, 1), (1, 1, 2)], 0)
        self.assert_chain(False, [(0, 0, 1)], 0)
        self.assert_chain(False, [(2, 2, None), (3, None, None)], 2, absent=())
        self.assert_chain(False, [(2, 2, None), (3, 2, None)], 2, absent=())
        self.assert_chain(False, [(2, 2, 0), (3, 0, None), (2, None, None)], 2, kept=[()] * 4, absent=())

    def test_the_last_one_reads_fewer_than_its_limit(self):
        self.assert_chain(False, [(0, 0, None)], 0)
        self.assert_chain(False, [(0, 0, 1), (1, 1, None)], 0)
        book = Book([1], [(0, (0,))])
        self.assert_chain(False, [(0, 0, None)], 0, book, [()], [()], ())

    def test_others_may_read_fewer_too(self):
        self.assert_chain(True, [(2, 2, 0), (3, 0, None)], 2, kept=[()] * 4, absent=())

    def test_what_is_taken_may_be_read_and_is_not(self):
        self.assert_chain(False, [(2, 1, None)], 1)
        self.assert_chain(False, [(2, 0, None)], 0)
        self.assert_chain(False, [(1, 0, 2), (2, 2, None)], 0)
        self.assert_chain(False, [(3, 3, None)], 3, absent=())
        self.assert_chain(False, [(1, 2, 2), (2, 2, None)], 2)

    def test_what_is_given_is_read_but_not_kept(self):
        chain = [(0, 0, 1), (1, 1, 2), (2, 2, None)]
        self.assert_chain(True, chain, kept=[(), (), (0,), ()])
        self.assert_chain(False, chain, kept=[(1,), (), (), ()])
        self.assert_chain(False, chain, kept=[(), (2,), (), ()])
        self.assert_chain(False, [(2, 2, 1), (3, 1, None)], 2, absent=())
        self.assert_chain(False, [(2, 2, 0), (3, 0, None)], 2, absent=())

    def test_readers_are_present(self):
        self.assert_chain(False, [(3, 0, None)], 0)
        self.assert_chain(False, [(4, 0, None)], 0)
        self.assert_chain(False, [(-1, 0, None)], 0, absent=())
        self.assert_chain(False, [(-2, 2, None)], 2)
        self.assert_chain(False, [(2, 2, None)], 2, absent=(2, 3), rows=[(1,), (2,), (), ()])

    def test_what_absent_readers_read_in_the_kept_rows_does_not_count(self):
        self.assert_chain(True, [(0, 0, 1), (1, 1, 2), (2, 2, None)], kept=[(), (), (0,), (0, 1, 2)])

    def test_readers_are_different(self):
        book = Book([1] * 3, [(2, (0, 1, 2)), (1, (1, 2))])
        rows = [(1,), (2,)]
        self.assert_chain(True, [(0, 0, None)], 0, book, [()] * 2, rows, ())
        self.assert_chain(False, [(0, 0, 1), (1, 1, 2), (0, 2, None)], 0, book, [()] * 2, rows, ())
        self.assert_chain(False, [(0, 0, 1), (0, 2, None)], 0, book, [()] * 2, rows, ())

    def test_a_work_may_come_back(self):
        book = Book([1] * 2, [(1, (0, 1)), (1, (0, 1)), (1, (0,))])
        self.assert_chain(True, [(0, 0, 1), (1, 1, 0), (2, 0, None)], 0, book, [()] * 3, [(1,), (0,), ()], ())

    def test_no_reader(self):
        for value in odd_values() + [[(0, 0, None)]]:
            self.assert_chain(False, value, 0, Book([1], []), [], [], ())

    def test_kinds_are_not_exchanged(self):
        self.assert_chain(False, ((2, 2, None),), 2)
        self.assert_chain(False, [[2, 2, None]], 2)
        self.assert_chain(False, [(2, 2)], 2)
        self.assert_chain(False, [(2, 2, None, None)], 2)
        self.assert_chain(False, {0: (2, 2, None)}, 2)
        self.assert_chain(False, (2, 2, None), 2)
        for gives in (0, False, "", (), [], "None", -1):
            self.assert_chain(False, [(2, 2, gives)], 2)

    def test_booleans_are_no_integers(self):
        self.assert_chain(True, [(1, 1, 2), (2, 2, None)], 1)
        self.assert_chain(False, [(True, 1, 2), (2, 2, None)], 1)
        self.assert_chain(False, [(1, True, 2), (2, 2, None)], 1)
        self.assert_chain(True, [(0, 0, 1), (1, 1, 2), (2, 2, None)])
        self.assert_chain(False, [(False, 0, 1), (1, 1, 2), (2, 2, None)])
        self.assert_chain(False, [(0, False, 1), (1, 1, 2), (2, 2, None)])
        self.assert_chain(False, [(0, 0, True), (1, 1, 2), (2, 2, None)])

    def test_any_value(self):
        chain = [(0, 0, 1), (1, 1, 2), (2, 2, None)]
        for value in odd_values() + altered(chain):
            before = repr(value)
            self.assert_chain(before == repr(chain), value)
            self.assertEqual(repr(value), before)

    def test_deeply_nested_and_huge_values(self):
        deep = [nested(kind, depth) for kind in (list, tuple, dict) for depth in (46, 49, 50)]
        for part in deep + [10 ** 5000, -10 ** 5000, chr(0), "0" * 10000]:
            for value in (part, [part], [(part,)], [(part, 0, 1), (1, 1, 2), (2, 2, None)], [(part, part, part)]):
                self.assert_chain(False, value)
            self.assert_chain(False, [(0, part, 1), (1, 1, 2), (2, 2, None)])
            self.assert_chain(False, [(0, 0, part), (1, 1, 2), (2, 2, None)])
            self.assert_chain(False, [(0, 0, part), (1, part, 2), (2, 2, None)])
            self.assert_chain(False, [(0, 0, 1), (1, 1, 2), (2, 2, part)])
        self.assert_chain(False, [(0, 0, 1), (1, 1, 2), (2, 2, None)] * 10000)


class IsClosedTest(StepCase):

    def test_a_reader_that_reads_all_that_it_may(self):
        book = Book([1, 1, 1], [(3, (0, 1))])
        self.assert_closed(True, (0,), book, [()], [(0,)], ())
        self.assert_closed(True, (0, 2), book, [()], [(0,)], ())
        self.assert_closed(True, (2,), book, [()], [(0,)], ())
        self.assert_closed(False, (0, 1), book, [()], [(0,)], ())
        self.assert_closed(False, (1,), book, [()], [(0,)], ())

    def test_a_reader_at_its_limit(self):
        book = Book([1, 1, 1], [(1, (0, 1, 2))])
        self.assert_closed(True, (0, 1), book, [()], [(0,)], ())
        self.assert_closed(True, (0, 1, 2), book, [()], [(0,)], ())
        self.assert_closed(False, (1,), book, [()], [(0,)], ())
        self.assert_closed(False, (1, 2), book, [()], [(0,)], ())

    def test_works_outside_of_the_set_in_the_kept_rows(self):
        book = Book([1, 1, 1], [(2, (0, 1, 2))])
        self.assert_closed(True, (2,), book, [(0, 1)], [(0, 1)], ())
        self.assert_closed(False, (2,), book, [(0,)], [(0, 1)], ())
        self.assert_closed(True, (1, 2), book, [(0,)], [(0, 1)], ())
        self.assert_closed(False, (1, 2), book, [(1,)], [(0, 1)], ())

    def test_one_reader_opens_a_set(self):
        self.assert_closed(True, (0, 1), kept=[(), (2,), (), ()])
        self.assert_closed(False, (0, 1))
        self.assert_closed(False, (0, 1), kept=[(), (2,), (), ()], absent=())

    def test_what_absent_readers_read_in_the_kept_rows_does_not_count(self):
        for works in subsets(range(3))[1:]:
            for absent_row in ((), (0,), (0, 1, 2)):
                kept = [(1,), (2,), (), absent_row]
                self.assert_closed(works in ((0,), (1,), (0, 1)), works, kept=kept)

    def test_limits_of_zero(self):
        book = Book([1, 0], [(0, (0, 1)), (1, (1,))])
        self.assert_closed(True, (0,), book, [(), ()], [(), ()], ())
        self.assert_closed(False, (1,), book, [(), ()], [(), ()], ())
        self.assert_closed(True, (0, 1), book, [(), ()], [(), (1,)], ())

    def test_no_reader_and_all_absent(self):
        for works in subsets(range(3)):
            self.assert_closed(works != (), works, Book([1, 1, 1], []), [], [], ())
            self.assert_closed(works != (), works, BOOK, ROWS, [()] * 4, (0, 1, 2, 3))

    def test_one_work_and_six_works(self):
        self.assert_closed(True, (0,), Book([6], [(1, (0,))]), [()], [(0,)], ())
        self.assert_closed(False, (0,), Book([6], [(1, (0,))]), [()], [()], ())
        self.assert_closed(True, EVERY, Book([6] * 6, [(3, EVERY)] * 6), [()] * 6, [(0, 1, 2), (3, 4, 5)] * 3, ())
        self.assert_closed(False, EVERY, Book([6] * 6, [(3, EVERY)] * 6), [()] * 6, [(0, 1, 2), (3, 4)] * 3, ())

    def test_it_is_a_set_of_works(self):
        for value in ((), (1, 0), (0, 0), (0, 3), (3,), (-1,), (-1, 0), [0], [0, 1], {0: 0}, "0", 0, None, (None,)):
            self.assert_closed(False, value, rows=[()] * 4, absent=(0, 1, 2, 3))
        for value in ((False,), (True,), (0, True), (False, 1), (0.0,), ("0",), ((0,),), ([0],)):
            self.assert_closed(False, value, rows=[()] * 4, absent=(0, 1, 2, 3))

    def test_any_value(self):
        legal = {repr(works) for works in ((0,), (1,), (0, 1))}
        for value in odd_values() + altered((0, 1)) + altered((0,)):
            before = repr(value)
            self.assert_closed(before in legal, value, kept=ROWS)
            self.assertEqual(repr(value), before)

    def test_deeply_nested_and_huge_values(self):
        deep = [nested(kind, depth) for kind in (list, tuple, dict) for depth in (46, 49, 50)]
        for part in deep + [10 ** 5000, -10 ** 5000, "0" * 10000]:
            for value in (part, (part,), (0, part), (part, 0), (part, part), [part]):
                self.assert_closed(False, value, kept=ROWS)
        self.assert_closed(False, (0, 1) * 10000, kept=ROWS)
        self.assert_closed(False, tuple(range(10000)), kept=ROWS)
