"""Book: points 3 and 4, and Stage 1 of the interface."""

import unittest

from eachworkread.books import Book
from eachworkread.errors import BadBook
from tests.helper import altered, nested, odd_values, subsets

DEMANDS = [2, 1, 1]
READERS = [(2, (0, 1)), (1, (0, 2)), (2, (0, 1, 2))]
FINE = "fine"

# A repr tells True from 1 and a list from a tuple, which == does not always do.
LEGAL_READERS = {
    works: {repr((limit, may)) for limit in range(7) for may in subsets(range(works))} for works in range(1, 7)
}


def expected(demands, readers):
    """Return FINE, or the place that BadBook must tell, by looking up all readers that there are."""
    legal = {repr(demand) for demand in range(7)}
    if type(demands) is not list or len(demands) not in range(1, 7) or not {repr(d) for d in demands} <= legal:
        return None
    if type(readers) is not list or len(readers) not in range(7):
        return None
    wrong = [k for k, reader in enumerate(readers) if repr(reader) not in LEGAL_READERS[len(demands)]]
    return wrong[0] if wrong else FINE


class BookCase(unittest.TestCase):

    def assert_bad(self, place, demands, readers):
        with self.assertRaises(BadBook) as caught:
            Book(demands, readers)
        self.assertEqual(repr(caught.exception.place), repr(place), (demands, readers))

    def assert_as_expected(self, demands, readers):
        before = repr([demands, readers])
        place = expected(demands, readers)
        if place == FINE:
            book = Book(demands, readers)
            self.assertEqual(repr([book.demands(), book.readers()]), before)
        else:
            self.assert_bad(place, demands, readers)
        self.assertEqual(repr([demands, readers]), before)


class ExamplesTest(BookCase):

    def test_examples_of_the_document(self):
        book = Book([2, 1, 1], [(2, (0, 1)), (1, (0, 2)), (2, (0, 1, 2))])
        self.assertEqual([len(book), book.demands(), book.readers()[1]], [3, [2, 1, 1], (1, (0, 2))])
        self.assert_bad(1, [2, 1], [(2, (0, 1)), (1, (1, 0))])


class EdgesTest(BookCase):

    def test_one_work_and_no_reader(self):
        book = Book([0], [])
        self.assertEqual([len(book), book.demands(), book.readers()], [1, [0], []])

    def test_six_works_and_six_readers(self):
        readers = [(6, (0, 1, 2, 3, 4, 5))] * 5 + [(0, ())]
        book = Book([6, 0, 1, 2, 3, 4], readers)
        self.assertEqual([len(book), book.demands(), book.readers()], [6, [6, 0, 1, 2, 3, 4], readers])

    def test_no_work_and_seven_works(self):
        self.assert_bad(None, [], [])
        self.assert_bad(None, [1] * 7, [])

    def test_seven_readers(self):
        self.assert_bad(None, [1], [(1, (0,))] * 7)
        self.assert_bad(None, [1], [None] * 7)

    def test_demands_and_limits_at_their_ends(self):
        for number in (0, 6):
            self.assertEqual(Book([number], [(number, (0,))]).readers(), [(number, (0,))])
        for number in (-1, 7, 10 ** 5000, -10 ** 5000):
            self.assert_bad(None, [number], [])
            self.assert_bad(None, [1, number], [])
            self.assert_bad(0, [1], [(number, ())])
            self.assert_bad(1, [1], [(1, (0,)), (number, (0,))])

    def test_works_that_a_reader_may_read(self):
        self.assertEqual(Book([1, 1], [(6, ())]).readers(), [(6, ())])
        for may in ((1, 0), (0, 0), (0, 1, 1), (2,), (0, 2), (-1,), (-1, 0), (10 ** 5000,)):
            self.assert_bad(0, [1, 1], [(1, may)])

    def test_booleans_are_no_integers(self):
        self.assert_bad(None, [True], [])
        self.assert_bad(None, [False, 1], [])
        self.assert_bad(0, [1, 1], [(True, (0,))])
        self.assert_bad(0, [1, 1], [(1, (False,))])
        self.assert_bad(0, [1, 1], [(1, (0, True))])

    def test_lists_and_tuples_are_not_exchanged(self):
        self.assert_bad(None, (1, 1), [(1, (0,))])
        self.assert_bad(None, [1, 1], ((1, (0,)),))
        self.assert_bad(0, [1, 1], [[1, (0,)]])
        self.assert_bad(0, [1, 1], [(1, [0])])

    def test_readers_of_other_lengths(self):
        for reader in ((), (1,), (1, (0,), (0,)), ((0,), 1), (1, 0), ((1, (0,)),)):
            self.assert_bad(0, [1, 1], [reader])

    def test_the_first_wrong_reader_is_told(self):
        self.assert_bad(2, [1], [(1, (0,)), (0, ()), None, (1, (0,)), (9, ())])
        self.assert_bad(5, [1], [(1, (0,))] * 5 + [(1, (1,))])

    def test_wrong_demands_come_before_wrong_readers(self):
        self.assert_bad(None, [7], [None])
        self.assert_bad(None, [1], {0: (1, (0,))})


class AnyValueTest(BookCase):

    def test_odd_demands_and_readers(self):
        for demands in odd_values() + [DEMANDS]:
            for readers in odd_values() + [READERS]:
                self.assert_as_expected(demands, readers)

    def test_altered_demands(self):
        for demands in altered(DEMANDS):
            self.assert_as_expected(demands, READERS)

    def test_altered_readers(self):
        for readers in altered(READERS):
            self.assert_as_expected(DEMANDS, readers)

    def test_deeply_nested_values(self):
        for kind in (list, tuple, dict):
            deep = nested(kind, 50)
            self.assert_bad(None, deep, READERS)
            self.assert_bad(None, [deep], READERS)
            self.assert_bad(0, DEMANDS, [deep])
            self.assert_bad(0, DEMANDS, [(deep, deep)])
            self.assert_bad(0, DEMANDS, [(1, (0, deep))])
            self.assert_bad(0, DEMANDS, [(1, (deep, 0))])

    def test_all_legal_readers_of_two_works(self):
        for limit in range(7):
            for may in subsets(range(2)):
                self.assertEqual(Book([0, 0], [(limit, may)]).readers(), [(limit, may)])


class CopiesTest(BookCase):

    def test_arguments_may_be_changed_afterwards(self):
        demands, readers = list(DEMANDS), list(READERS)
        book = Book(demands, readers)
        demands[0] = 6
        demands.append(0)
        readers[0] = (0, ())
        readers.pop()
        self.assertEqual([len(book), book.demands(), book.readers()], [3, DEMANDS, READERS])

    def test_told_lists_may_be_changed(self):
        book = Book(DEMANDS, READERS)
        book.demands().append(3)
        book.readers().clear()
        self.assertEqual([len(book), book.demands(), book.readers()], [3, DEMANDS, READERS])

    def test_told_lists_are_new(self):
        demands, readers = list(DEMANDS), list(READERS)
        book = Book(demands, readers)
        told = [book.demands(), book.demands(), book.readers(), book.readers(), demands, readers]
        self.assertEqual(len({id(one) for one in told}), len(told))

    def test_a_wrong_book_leaves_its_arguments(self):
        demands, readers = [1, 7], [(1, [0])]
        self.assert_bad(None, demands, readers)
        self.assertEqual([demands, readers], [[1, 7], [(1, [0])]])


class EqualityTest(BookCase):

    def test_same_lists(self):
        self.assertTrue(Book(DEMANDS, READERS) == Book(list(DEMANDS), list(READERS)))
        self.assertFalse(Book(DEMANDS, READERS) != Book(list(DEMANDS), list(READERS)))

    def test_other_lists(self):
        book = Book(DEMANDS, READERS)
        others = [Book([2, 1, 2], READERS), Book(DEMANDS + [0], READERS), Book(DEMANDS, READERS[:2])]
        others += [Book(DEMANDS, READERS[::-1]), Book(DEMANDS, READERS[:2] + [(1, (0, 1, 2))])]
        others += [Book(DEMANDS, READERS[:2] + [(2, (0, 1))])]
        for other in others:
            self.assertFalse(book == other)
            self.assertTrue(book != other)

    def test_no_other_value_is_equal(self):
        book = Book(DEMANDS, READERS)
        for other in odd_values() + [DEMANDS, (DEMANDS, READERS), [DEMANDS, READERS], 3, object()]:
            self.assertIs(book == other, False)
            self.assertIs(other == book, False)
            self.assertTrue(book != other)


class NamesTest(BookCase):

    def test_arguments_by_name(self):
        self.assertEqual(Book(readers=READERS, demands=DEMANDS), Book(DEMANDS, READERS))
        with self.assertRaises(BadBook) as caught:
            Book(readers=[0], demands=DEMANDS)
        self.assertEqual(caught.exception.place, 0)
