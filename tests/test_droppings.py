"""borne, reason and is_reason by hand: points 2, 3, 7, 8 and 10, and Stage 5 of the interface."""

import unittest

from eachworkread.books import Book
from eachworkread.droppings import borne, is_reason, reason
from eachworkread.extending import extension
from eachworkread.rows import extends, is_rows, is_short
from tests.helper import altered, nested, odd_values

BOOK = Book([1, 1, 1], [(1, (1, 2)), (1, (0, 2)), (1, (0, 1)), (1, (1, 2)), (3, (0, 1, 2))])
NOTHING = [()] * 5
THREE = Book([1, 1], [(1, (0,)), (1, (0, 1)), (1, (1,))])
EVERY = (0, 1, 2, 3, 4, 5)


class DroppingsCase(unittest.TestCase):

    def assert_borne(self, wanted, book, rows, absent=()):
        """Hold borne, reason and is_reason against each other, for numbers from 0 to some beyond the readers."""
        found = borne(book, rows, absent)
        self.assertIs(type(found), int)
        self.assertEqual(found, wanted, (book.demands(), book.readers(), rows, absent))
        present = len(book.readers()) - len(absent)
        for number in range(9):
            told = reason(book, rows, absent, number)
            if number <= wanted or wanted == present:
                self.assertIsNone(told)
            else:
                self.assertIs(is_reason(book, rows, absent, number, told), True, told)
                self.assertIs(type(told), tuple)
                self.assertEqual([type(part) for part in told], [tuple, tuple])

    def assert_reason(self, wanted, value, number=1, book=THREE, rows=((), (), ()), absent=()):
        self.assertIs(is_reason(book, list(rows), absent, number, value), wanted, value)


class ExamplesTest(unittest.TestCase):

    def test_examples_of_the_document(self):
        book = Book([1, 1, 1], [(1, (1, 2)), (1, (0, 2)), (1, (0, 1)), (1, (1, 2)), (3, (0, 1, 2))])
        found = [borne(book, [(), (), (), (), (0, 1, 2)], ()), borne(book, [(1,), (0,), (), (2,), ()], (4,))]
        found.append(is_reason(book, [(), (), (), (), ()], (), 3, ((0,), (1, 2, 4))))
        self.assertEqual(found, [2, 0, True])


class MainFactTest(DroppingsCase):

    def test_an_extension_can_make_the_number_less_than_the_dropping_before_it(self):
        rows = [(), (), (), (), (0, 1, 2)]
        self.assert_borne(2, BOOK, rows)
        self.assert_borne(1, BOOK, rows, (4,))
        kind, behind = extension(BOOK, rows, (4,))
        self.assertEqual(kind, "yes")
        self.assert_borne(0, BOOK, behind, (4,))

    def test_what_is_read_outside_of_a_set_takes_away(self):
        book = Book([1, 1], [(1, (0, 1)), (1, (0, 1)), (1, (0, 1))])
        self.assert_borne(1, book, [(), (), ()])
        self.assert_borne(0, book, [(0,), (1,), (1,)])
        self.assert_borne(1, book, [(0,), (1,), ()])


class BorneTest(DroppingsCase):

    def test_ordinary_books(self):
        self.assert_borne(1, THREE, [(), (), ()])
        self.assert_borne(0, THREE, [(0,), (1,), ()])
        self.assert_borne(1, THREE, [(0,), (), (1,)])
        self.assert_borne(0, THREE, [(), (), ()], (1,))
        self.assert_borne(-1, THREE, [(), (), ()], (1, 2))

    def test_readers_drop_out_at_once(self):
        # Each single dropping is borne, and behind some of them another one; but not each pair at once.
        book = Book([1], [(1, (0,)), (1, (0,)), (1, ())])
        self.assert_borne(1, book, [()] * 3)
        self.assert_borne(1, book, [()] * 3, (2,))
        self.assert_borne(0, book, [()] * 3, (0,))

    def test_what_absent_readers_read_does_not_count(self):
        self.assert_borne(0, THREE, [(0,), (1,), ()], (1,))
        self.assert_borne(-1, THREE, [(0,), (0,), (1,)], (2,))
        self.assert_borne(0, THREE, [(0,), (0,), (1,)], (0,))

    def test_works_that_are_read_too_often(self):
        book = Book([1], [(1, (0,))] * 4)
        self.assert_borne(3, book, [(0,)] * 4)
        self.assert_borne(3, book, [(0,), (0,), (), ()])
        self.assert_borne(2, book, [(0,)] * 4, (1,))

    def test_no_reader(self):
        self.assert_borne(0, Book([0], []), [])
        self.assert_borne(-1, Book([1], []), [])
        self.assert_borne(-1, Book([0] * 5 + [1], []), [])

    def test_all_absent(self):
        self.assert_borne(-1, THREE, [(0,), (1,), ()], (0, 1, 2))
        self.assert_borne(0, Book([0, 0], THREE.readers()), [(0,), (1,), ()], (0, 1, 2))

    def test_demands_of_zero(self):
        book = Book([0, 0], THREE.readers())
        self.assert_borne(3, book, [()] * 3)
        self.assert_borne(3, book, [(0,), (1,), (1,)])
        self.assert_borne(2, book, [(0,), (1,), (1,)], (1,))
        self.assert_borne(1, Book([0, 1], THREE.readers()), [()] * 3)

    def test_limits_of_zero(self):
        book = Book([1], [(0, (0,)), (1, (0,)), (0, (0,))])
        self.assert_borne(0, book, [()] * 3)
        self.assert_borne(-1, book, [()] * 3, (1,))
        self.assert_borne(3, Book([0], book.readers()), [()] * 3)

    def test_six_works_and_six_readers(self):
        for demand in range(7):
            self.assert_borne(6 - demand, Book([demand] * 6, [(6, EVERY)] * 6), [()] * 6)
            self.assert_borne(6 - demand, Book([demand] * 6, [(6, EVERY)] * 6), [EVERY] * 6)
            self.assert_borne(max(5 - demand, -1), Book([demand] * 6, [(6, EVERY)] * 6), [EVERY] * 6, (3,))
        self.assert_borne(2, Book([1] * 6, [(2, EVERY)] * 5), [()] * 5)
        self.assert_borne(0, Book([1] * 6, [(2, EVERY)] * 5), [(0, 1), (2, 3), (4, 5), (0, 1), (2, 3)])

    def test_counts_below_zero(self):
        # Rows that go beyond a limit: reader 0 counts -1 for each of the works.
        book, rows = Book([0, 0], [(0, (0, 1)), (1, (0, 1)), (0, ())]), [(0, 1), (), ()]
        self.assert_borne(0, book, rows)
        self.assert_borne(1, book, rows, (0, 2))
        self.assert_borne(-1, book, rows, (1,))
        self.assert_reason(True, ((0,), (1,)), 1, book, rows)
        self.assert_reason(False, ((0,), (0,)), 1, book, rows)
        self.assert_reason(False, ((0,), (0, 1)), 2, book, rows)
        self.assert_reason(True, ((1,), ()), 0, book, rows, (1,))

    def test_arguments_by_name_and_unchanged(self):
        book, rows = Book(THREE.demands(), THREE.readers()), [(0,), (1,), ()]
        self.assertEqual(borne(absent=(), rows=rows, book=book), 0)
        told = reason(number=1, absent=(), rows=rows, book=book)
        self.assertEqual(told, reason(book, rows, (), 1))
        self.assertIs(is_reason(value=told, number=1, absent=(), rows=rows, book=book), True)
        self.assertEqual([book, rows], [THREE, [(0,), (1,), ()]])


class IsReasonTest(DroppingsCase):

    def test_reasons(self):
        self.assert_reason(True, ((0,), (0, 1)), 2)
        self.assert_reason(True, ((0, 1), (0, 1)), 2)
        self.assert_reason(True, ((0, 1), (0, 2)), 2)
        self.assert_reason(True, ((0,), (0,)), 1, rows=[(), (1,), ()])
        self.assert_reason(True, ((1,), (2,)), 1, rows=[(), (0,), ()])

    def test_just_enough_is_no_reason(self):
        self.assert_reason(False, ((0, 1), (1,)))
        self.assert_reason(False, ((0,), (0,)))
        self.assert_reason(False, ((0,), (0, 2)), 2)
        self.assert_reason(False, ((0,), ()), 0)

    def test_no_droppers(self):
        self.assert_reason(True, ((0,), ()), 0, absent=(0, 1))
        self.assert_reason(True, ((0, 1), ()), 0, absent=(0, 1))
        self.assert_reason(False, ((1,), ()), 0, absent=(0, 1))

    def test_at_most_so_many_droppers(self):
        for number in range(9):
            self.assert_reason(number >= 2, ((0,), (0, 1)), number)
            self.assert_reason(number >= 3, ((0,), (0, 1, 2)), number)
        self.assert_reason(False, ((0,), (0, 1)), -1)
        self.assert_reason(False, ((0,), ()), -1, absent=(0, 1))

    def test_droppers_that_count_nothing_for_the_set(self):
        self.assert_reason(True, ((0,), (2,)), 1, absent=(0, 1))
        self.assert_reason(True, ((0,), (0, 1, 2)), 3)

    def test_droppers_are_present(self):
        self.assert_reason(False, ((0,), (0, 1)), 2, absent=(1,))
        self.assert_reason(False, ((0,), (1,)), 2, absent=(0, 1))
        self.assert_reason(True, ((0,), (0,)), 2, absent=(1,))
        self.assert_reason(False, ((0,), (0, 1, 3)), 3)
        self.assert_reason(False, ((0,), (-1, 0, 1)), 3)
        self.assert_reason(False, ((0,), (-3, -2)), 3)

    def test_droppers_are_ascending_and_different(self):
        self.assert_reason(False, ((0,), (1, 0)), 3)
        self.assert_reason(False, ((0,), (0, 1, 1)), 3)
        self.assert_reason(False, ((0,), (0, 0, 1)), 3)

    def test_works_are_a_set_of_works(self):
        for works in ((), (1, 0), (0, 0), (0, 2), (2,), (-1,), (-1, 0)):
            self.assert_reason(False, (works, (0, 1, 2)), 3)

    def test_demands_of_zero_and_no_reader(self):
        self.assert_reason(False, ((0,), (0, 1, 2)), 3, Book([0, 1], THREE.readers()))
        self.assert_reason(True, ((0, 1), (0, 1, 2)), 3, Book([0, 1], THREE.readers()))
        self.assert_reason(True, ((0,), ()), 0, Book([1], []), [])
        self.assert_reason(False, ((0,), ()), 6, Book([0], []), [])
        self.assert_reason(False, ((0,), (0,)), 6, Book([1], []), [])

    def test_what_absent_readers_read_does_not_count(self):
        self.assert_reason(False, ((0,), (0,)), rows=[(), (0,), ()])
        self.assert_reason(True, ((0,), (0,)), rows=[(), (0,), ()], absent=(1,))
        self.assert_reason(True, ((0,), (1,)), rows=[(0,), (0,), ()], absent=(0,))

    def test_kinds_are_not_exchanged(self):
        self.assert_reason(True, ((0,), (0, 1)), 2)
        self.assert_reason(False, [(0,), (0, 1)], 2)
        self.assert_reason(False, ([0], (0, 1)), 2)
        self.assert_reason(False, ((0,), [0, 1]), 2)
        self.assert_reason(False, ((0,), (0, 1), ()), 2)
        self.assert_reason(False, ((0,),), 2)
        self.assert_reason(False, {0: (0,), 1: (0, 1)}, 2)
        self.assert_reason(False, {(0,): 0, (0, 1): 1}, 2)

    def test_booleans_are_no_integers(self):
        self.assert_reason(False, ((False,), (0, 1)), 2)
        self.assert_reason(False, ((0,), (False, 1)), 2)
        self.assert_reason(False, ((0,), (0, True)), 2)
        self.assert_reason(False, ((0, True), (0, 1)), 2)

    def test_any_value(self):
        legal = {repr((works, droppers)) for works in ((0,), (0, 1)) for droppers in ((0, 1), (0, 1, 2))}
        legal |= {repr((works, droppers)) for works in ((1,), (0, 1)) for droppers in ((1, 2), (0, 1, 2))}
        legal |= {repr(((0, 1), (0, 2)))}
        for value in odd_values() + altered(((0,), (0, 1))) + altered(((0, 1), (0, 1, 2))):
            before = repr(value)
            self.assert_reason(before in legal, value, 3)
            self.assertEqual(repr(value), before)

    def test_deeply_nested_and_huge_values(self):
        deep = [nested(kind, depth) for kind in (list, tuple, dict) for depth in (46, 49, 50)]
        for part in deep + [10 ** 5000, -10 ** 5000, "0" * 10000]:
            for value in (part, (part,), (part, part), ((0,), part), (part, (0, 1)), [part, part]):
                self.assert_reason(False, value, 3)
            for value in (((0, part), (0, 1)), ((part, 0), (0, 1)), ((0,), (part, 0, 1)), ((0,), (0, 1, part))):
                self.assert_reason(False, value, 3)
        self.assert_reason(False, ((0,), (0, 1) * 10000), 10 ** 6)
        self.assert_reason(False, ((0,) * 10000, (0, 1)), 3)
        self.assert_reason(False, ((0,), (0, 1)) * 10000, 3)

    def test_great_numbers(self):
        self.assert_reason(True, ((0,), (0, 1)), 10 ** 30)
        self.assertIs(is_reason(THREE, [()] * 3, (), 10 ** 30, reason(THREE, [()] * 3, (), 10 ** 30)), True)


class PointEightTest(unittest.TestCase):

    def test_a_reason_without_droppers_is_a_short_set(self):
        for absent in ((), (1,), (0, 1), (0, 1, 2)):
            kind, told = extension(THREE, [()] * 3, absent)
            self.assertEqual(borne(THREE, [()] * 3, absent) >= 0, kind == "yes")
            if kind == "no":
                self.assertIs(is_reason(THREE, [()] * 3, absent, 0, (told, ())), True)
                self.assertIs(is_short(THREE, [()] * 3, absent, reason(THREE, [()] * 3, absent, 0)[0]), True)
            else:
                self.assertIs(is_rows(THREE, told), True)
                self.assertIs(extends(THREE, [()] * 3, absent, told), True)
