"""House by hand: points 3, 15, 16 and 17, and Stage 9 of the interface."""

import unittest

from eachworkread.books import Book
from eachworkread.droppings import borne
from eachworkread.errors import (
    BadBook, BadDemand, BadLimit, NoComing, NoDropping, NoReader, NothingDone, NoWork, ReadError, Short, TooManyWorks,
)
from eachworkread.extending import extension
from eachworkread.house import House
from eachworkread.relaid import relaid
from eachworkread.rows import is_short
from tests.helper import altered, nested, odd_values, subsets

READERS = [(1, (0,)), (1, (0, 1)), (1, (1,))]
EVERY = (0, 1, 2, 3, 4, 5)
ATTRIBUTES = {
    NoDropping: "droppers", NoComing: "reader", Short: "works", BadDemand: "demand", BadLimit: "limit",
    NoWork: "work", NoReader: "reader", TooManyWorks: None, NothingDone: None,
}


def two_and_one():
    return House(Book([2, 1], READERS))


def two_readers():
    """Return a house with one work that both of its readers may read: all reasons against 2 are ((0,), (0, 1))."""
    return House(Book([1], [(1, (0,))] * 2))


def standing(house):
    """Return all that a house tells of itself."""
    book = house.book_now()
    state = (book.demands(), book.readers(), house.rows_now(), house.absent_now())
    return repr((state, len(house), house.kept(), house.borne_now()))


def any_values():
    """Return values of many kinds, among them very great ones and what calls returned."""
    house = two_and_one()
    house.extend()
    returned = [house, house.fork(), house.book_now(), house.rows_now(), house.absent_now(), house.why_not(1)]
    returned += [house.kept(), house.kept()[0], (house.kept(),), {0: house.kept()}, extension(Book([1], []), [], ())]
    returned += [relaid(Book([0], [(1, (0,))]), [()], ()), BadBook(3), NoDropping((9,)), NothingDone()]
    great = [10 ** 4000, -10 ** 4000, (10 ** 4000,), (0, 10 ** 4000), "0" * 10000, (0,) * 10000, [0] * 10000]
    great += [tuple(range(10000)), nested(list, 50), nested(tuple, 50), nested(dict, 50), (nested(tuple, 49),)]
    wrong = [(0, True), (False,), (1, 0), (0, 0), (0, 1, 1), (-1,), (-1, 0), (0, 3), (3,), (0, 1, 2, 3), [0], [0, 1]]
    wrong += [{0}, {0: 1}, (None,), ("0",), ((0,),), ((0, 1),), (0, None), 6, 7, -1, -2, 3]
    wrong += [True, False, None, "1", b"1"]
    return odd_values() + returned + great + wrong + altered((0, 2)) + altered(1)


class HouseCase(unittest.TestCase):

    def assert_refused(self, kind, value, house, call):
        """Hold that the call raises just this error with this very value, and leaves the house as it was."""
        before = standing(house)
        with self.assertRaises(ReadError) as caught:
            call()
        self.assertIs(type(caught.exception), kind)
        if ATTRIBUTES[kind] is not None:
            self.assertIs(getattr(caught.exception, ATTRIBUTES[kind]), value)
        self.assertEqual(standing(house), before)

    def assert_done(self, house, call, wanted=None):
        """Hold that the call is a change, and that it tells what is wanted."""
        many = len(house)
        found = call()
        self.assertEqual(repr(found), repr(wanted))
        self.assertEqual(len(house), many + 1)

    def assert_stands(self, house, demands, readers, rows, absent):
        book = house.book_now()
        found = (book.demands(), book.readers(), house.rows_now(), house.absent_now())
        self.assertEqual(repr(found), repr((demands, readers, rows, absent)))

    def assert_kept(self, house, wanted):
        self.assertEqual(repr(house.kept()), repr(wanted))


class ExamplesTest(unittest.TestCase):

    def test_examples_of_the_document(self):
        house = House(Book([2, 1], [(1, (0,)), (1, (0, 1)), (1, (1,))]))
        found = [house.extend(), house.borne_now(), house.drop_out((0,)), house.borne_now(), house.add_work(0, (2,))]
        self.assertEqual(found, [None, 0, None, -1, 2])
        found = [house.book_now().readers()[2], house.come_back(0), house.undo(), house.absent_now(), len(house)]
        self.assertEqual(found + [house.kept()], [(1, (1, 2)), None, None, (0,), 3, []])


class NewHouseTest(HouseCase):

    def test_nobody_is_absent_and_nobody_reads(self):
        house = two_and_one()
        self.assert_stands(house, [2, 1], READERS, [(), (), ()], ())
        self.assertEqual([len(house), house.kept(), house.borne_now()], [0, [], 0])

    def test_no_reader_and_six_of_all(self):
        house = House(Book([0], []))
        self.assert_stands(house, [0], [], [], ())
        self.assertEqual([house.borne_now(), house.extend(), house.lay_anew(), len(house)], [0, None, 0, 2])
        house = House(Book([6] * 6, [(6, EVERY)] * 6))
        self.assertEqual([house.extend(), house.rows_now()], [None, [EVERY] * 6])
        self.assertEqual([house.lay_anew(), house.rows_now(), house.borne_now()], [36, [EVERY] * 6, 0])

    def test_a_house_is_not_iterated_over(self):
        with self.assertRaises(TypeError):
            iter(two_and_one())

    def test_two_houses_of_one_book(self):
        book = Book([2, 1], READERS)
        first, second = House(book), House(book)
        first.set_demand(0, 0)
        first.drop_out((1,))
        self.assert_stands(second, [2, 1], READERS, [(), (), ()], ())
        self.assertEqual(book, Book([2, 1], READERS))


class ChangesTest(HouseCase):

    def test_drop_out(self):
        house = two_and_one()
        house.extend()
        rows = house.rows_now()
        self.assert_done(house, lambda: house.drop_out((1,)))
        self.assert_stands(house, [2, 1], READERS, [rows[0], (), rows[2]], (1,))
        self.assert_done(house, lambda: house.drop_out((0, 2)))
        self.assert_stands(house, [2, 1], READERS, [(), (), ()], (0, 1, 2))
        for value in ((0,), (1,), (0, 1, 2), ()):
            self.assert_refused(NoDropping, value, house, lambda: house.drop_out(value))

    def test_come_back(self):
        house = two_and_one()
        house.extend()
        house.drop_out((0, 2))
        self.assert_done(house, lambda: house.come_back(2))
        self.assert_stands(house, [2, 1], READERS, [(), house.rows_now()[1], ()], (0,))
        self.assert_done(house, lambda: house.come_back(0))
        self.assertEqual([house.rows_now()[0], house.rows_now()[2], house.absent_now()], [(), (), ()])
        for value in (0, 1, 2, 3, -1):
            self.assert_refused(NoComing, value, house, lambda: house.come_back(value))

    def test_extend(self):
        house = two_and_one()
        wanted = extension(Book([2, 1], READERS), [(), (), ()], ())[1]
        self.assert_done(house, lambda: house.extend())
        self.assert_stands(house, [2, 1], READERS, wanted, ())
        self.assert_done(house, lambda: house.extend())
        self.assert_stands(house, [2, 1], READERS, wanted, ())

    def test_extend_keeps_what_is_read_too_often(self):
        house = two_and_one()
        house.extend()
        rows = house.rows_now()
        house.set_demand(0, 0)
        house.extend()
        self.assert_stands(house, [0, 1], READERS, rows, ())
        self.assert_done(house, lambda: house.lay_anew(), 1)
        self.assertEqual(sorted(house.rows_now()), [(), (), (1,)])

    def test_extend_where_a_set_is_short(self):
        house = two_and_one()
        house.extend()
        house.drop_out((0,))
        before = standing(house)
        with self.assertRaises(Short) as caught:
            house.extend()
        self.assertIs(is_short(house.book_now(), house.rows_now(), (0,), caught.exception.works), True)
        self.assertEqual(standing(house), before)

    def test_a_set_that_is_short_only_for_the_rows_now(self):
        house = House(Book([0, 1], [(1, (0, 1)), (1, (0,))]))
        house.extend()
        house.set_demand(1, 0)
        house.set_demand(0, 2)
        self.assertEqual(house.rows_now(), [(1,), ()])
        with self.assertRaises(Short) as caught:
            house.extend()
        self.assertEqual(caught.exception.works, (0,))
        self.assert_done(house, lambda: house.lay_anew(), 0)
        self.assertEqual(house.rows_now(), [(0,), (0,)])

    def test_lay_anew(self):
        house = two_and_one()
        self.assert_done(house, lambda: house.lay_anew(), 0)
        rows = house.rows_now()
        self.assertEqual(rows, relaid(Book([2, 1], READERS), [(), (), ()], ())[1])
        self.assert_done(house, lambda: house.lay_anew(), 3)
        self.assertEqual(house.rows_now(), rows)
        house.drop_out((0,))
        before = standing(house)
        with self.assertRaises(Short) as caught:
            house.lay_anew()
        self.assertIs(is_short(house.book_now(), [(), (), ()], (0,), caught.exception.works), True)
        self.assertEqual(standing(house), before)

    def test_set_demand(self):
        house = two_and_one()
        house.extend()
        rows = house.rows_now()
        for work in range(2):
            for demand in range(7):
                self.assert_done(house, lambda: house.set_demand(work, demand))
                self.assertEqual(house.book_now().demands()[work], demand)
                self.assertEqual(house.book_now().demands()[1 - work], (1, 6)[work])
                self.assertEqual([house.book_now().readers(), house.rows_now()], [READERS, rows])

    def test_set_limit(self):
        house = two_and_one()
        house.extend()
        rows = house.rows_now()
        for limit in (1, 2, 6, 1):
            self.assert_done(house, lambda: house.set_limit(1, limit))
            self.assert_stands(house, [2, 1], [READERS[0], (limit, (0, 1)), READERS[2]], rows, ())
        self.assert_refused(BadLimit, 0, house, lambda: house.set_limit(1, 0))
        house.drop_out((1,))
        self.assert_done(house, lambda: house.set_limit(1, 0))
        self.assert_stands(house, [2, 1], [READERS[0], (0, (0, 1)), READERS[2]], [rows[0], (), rows[2]], (1,))

    def test_a_limit_just_as_many_as_the_reader_reads(self):
        house = House(Book([1, 1, 1], [(6, (0, 1, 2))]))
        house.extend()
        for limit in (0, 1, 2):
            self.assert_refused(BadLimit, limit, house, lambda: house.set_limit(0, limit))
        self.assert_done(house, lambda: house.set_limit(0, 3))

    def test_add_work(self):
        house = two_and_one()
        house.extend()
        rows = house.rows_now()
        house.drop_out((2,))
        self.assert_done(house, lambda: house.add_work(3, (0, 2)), 2)
        readers = [(1, (0, 2)), (1, (0, 1)), (1, (1, 2))]
        self.assert_stands(house, [2, 1, 3], readers, rows[:2] + [()], (2,))
        self.assert_done(house, lambda: house.add_work(0, ()), 3)
        self.assert_done(house, lambda: house.add_work(6, (0, 1, 2)), 4)
        self.assert_done(house, lambda: house.add_work(1, (1,)), 5)
        readers = [(1, (0, 2, 4)), (1, (0, 1, 4, 5)), (1, (1, 2, 4))]
        self.assert_stands(house, [2, 1, 3, 0, 6, 1], readers, rows[:2] + [()], (2,))
        self.assert_refused(TooManyWorks, None, house, lambda: house.add_work(1, (1,)))

    def test_add_work_where_nobody_reads(self):
        house = House(Book([1], []))
        self.assert_done(house, lambda: house.add_work(2, ()), 1)
        self.assert_stands(house, [1, 2], [], [], ())
        value = (0,)
        self.assert_refused(NoReader, value, house, lambda: house.add_work(2, value))

    def test_changes_that_leave_all_as_it_was_are_changes_too(self):
        house = two_and_one()
        house.extend()
        state = [house.book_now(), house.rows_now(), house.absent_now()]
        calls = [lambda: house.extend(), lambda: house.lay_anew(), lambda: house.set_demand(0, 2)]
        calls += [lambda: house.set_limit(0, 1), lambda: house.set_limit(2, 1), lambda: house.set_demand(1, 1)]
        for many, call in enumerate(calls):
            call()
            self.assertEqual(len(house), many + 2)
            self.assertEqual([house.book_now(), house.rows_now(), house.absent_now()], state)
        for many in range(len(calls), -1, -1):
            house.undo()
            self.assertEqual(len(house), many)
        self.assert_refused(NothingDone, None, house, lambda: house.undo())


class UndoTest(HouseCase):

    def test_each_change_is_undone(self):
        house = two_and_one()
        told = []
        calls = [lambda: house.extend(), lambda: house.drop_out((0,)), lambda: house.add_work(1, (0, 1))]
        calls += [lambda: house.set_limit(1, 3), lambda: house.come_back(0), lambda: house.set_demand(0, 1)]
        calls += [lambda: house.lay_anew(), lambda: house.drop_out((0, 2)), lambda: house.extend()]
        for call in calls:
            told.append(standing(house))
            call()
        self.assertEqual(len(house), len(calls))
        while told:
            self.assertIsNone(house.undo())
            self.assertEqual(standing(house), told.pop())
        self.assert_refused(NothingDone, None, house, lambda: house.undo())

    def test_undone_changes_are_gone(self):
        house = two_and_one()
        house.set_demand(0, 1)
        house.set_demand(0, 0)
        house.undo()
        house.set_demand(1, 0)
        self.assertEqual([house.book_now().demands(), len(house)], [[1, 0], 2])
        house.undo()
        self.assertEqual([house.book_now().demands(), len(house)], [[1, 1], 1])
        house.undo()
        self.assertEqual([house.book_now().demands(), len(house)], [[2, 1], 0])
        self.assert_refused(NothingDone, None, house, lambda: house.undo())

    def test_what_is_no_change(self):
        house = two_and_one()
        house.extend()
        for call in (house.borne_now, lambda: house.why_not(3), house.kept, house.fork, house.book_now):
            call()
            self.assertEqual(len(house), 1)
        house.undo()
        self.assertEqual([len(house), house.rows_now()], [0, [(), (), ()]])

    def test_a_refused_call_is_no_change(self):
        house = two_and_one()
        house.set_demand(0, 1)
        self.assert_refused(NoWork, 2, house, lambda: house.set_demand(2, 1))
        house.undo()
        self.assertEqual(house.book_now().demands(), [2, 1])

    def test_an_undoing_can_bring_readers_out_and_back(self):
        house = two_and_one()
        house.extend()
        rows = house.rows_now()
        house.drop_out((0,))
        house.come_back(0)
        house.undo()
        self.assertEqual([house.absent_now(), house.rows_now()[0]], [(0,), ()])
        house.undo()
        self.assertEqual([house.absent_now(), house.rows_now()], [(), rows])


class RefusalsTest(HouseCase):

    def assert_as_expected(self, house, legal, kind, value, call):
        """Hold that the call is a change if the value's text is among the legal ones, and refused otherwise."""
        if repr(value) in legal:
            call()
            house.undo()
        else:
            self.assert_refused(kind, value, house, call)

    def some_houses(self):
        """Return houses with three readers: one in which nobody is absent, one with an absent one, one with all."""
        houses = [two_and_one() for _ in range(3)]
        for house in houses:
            house.extend()
        houses[1].drop_out((1,))
        houses[2].drop_out((0, 1, 2))
        return houses

    def test_any_value_drops_out(self):
        for house in self.some_houses():
            here = [reader for reader in range(3) if reader not in house.absent_now()]
            legal = {repr(some) for some in subsets(here) if some}
            for value in any_values() + subsets(range(4)):
                self.assert_as_expected(house, legal, NoDropping, value, lambda: house.drop_out(value))

    def test_any_value_comes_back(self):
        for house in self.some_houses():
            legal = {repr(reader) for reader in house.absent_now()}
            for value in any_values() + list(range(-1, 7)):
                self.assert_as_expected(house, legal, NoComing, value, lambda: house.come_back(value))

    def test_any_work_and_any_demand(self):
        house = self.some_houses()[1]
        demands = {repr(demand) for demand in range(7)}
        for value in any_values() + list(range(-1, 8)):
            self.assert_as_expected(house, {"0", "1"}, NoWork, value, lambda: house.set_demand(value, 3))
            self.assert_as_expected(house, demands, BadDemand, value, lambda: house.set_demand(1, value))
            if repr(value) not in {"0", "1"}:
                self.assert_refused(NoWork, value, house, lambda: house.set_demand(value, value))
                self.assert_refused(NoWork, value, house, lambda: house.set_demand(value, 7))
            self.assert_refused(NoWork, 2, house, lambda: house.set_demand(2, value))

    def test_any_reader_and_any_limit(self):
        house = self.some_houses()[1]
        self.assertEqual([len(row) for row in house.rows_now()], [1, 0, 1])
        readers, limits = {"0", "1", "2"}, {repr(limit) for limit in range(7)}
        for value in any_values() + list(range(-1, 8)):
            self.assert_as_expected(house, readers, NoReader, value, lambda: house.set_limit(value, 3))
            self.assert_as_expected(house, limits, BadLimit, value, lambda: house.set_limit(1, value))
            self.assert_as_expected(house, limits - {"0"}, BadLimit, value, lambda: house.set_limit(2, value))
            if repr(value) not in readers:
                self.assert_refused(NoReader, value, house, lambda: house.set_limit(value, value))
                self.assert_refused(NoReader, value, house, lambda: house.set_limit(value, -1))
            self.assert_refused(NoReader, 3, house, lambda: house.set_limit(3, value))

    def test_any_demand_and_any_readers_of_a_new_work(self):
        house = self.some_houses()[1]
        full = House(Book([0] * 6, READERS))
        demands, readers = {repr(demand) for demand in range(7)}, {repr(some) for some in subsets(range(3))}
        for value in any_values() + subsets(range(4)) + list(range(-1, 8)):
            self.assert_as_expected(house, demands, BadDemand, value, lambda: house.add_work(value, (0, 2)))
            self.assert_as_expected(house, readers, NoReader, value, lambda: house.add_work(2, value))
            self.assert_refused(BadDemand, 7, house, lambda: house.add_work(7, value))
            if repr(value) not in demands:
                self.assert_refused(BadDemand, value, house, lambda: house.add_work(value, value))
            self.assert_refused(TooManyWorks, None, full, lambda: full.add_work(value, (0,)))
            self.assert_refused(TooManyWorks, None, full, lambda: full.add_work(1, value))
            self.assert_refused(TooManyWorks, None, full, lambda: full.add_work(value, value))

    def test_integers_that_cannot_be_written_out(self):
        house = self.some_houses()[1]
        for value in (10 ** 5000, -10 ** 5000):
            self.assert_refused(NoComing, value, house, lambda: house.come_back(value))
            self.assert_refused(NoWork, value, house, lambda: house.set_demand(value, value))
            self.assert_refused(BadDemand, value, house, lambda: house.set_demand(0, value))
            self.assert_refused(NoReader, value, house, lambda: house.set_limit(value, value))
            self.assert_refused(BadLimit, value, house, lambda: house.set_limit(0, value))
            self.assert_refused(BadDemand, value, house, lambda: house.add_work(value, value))
            for some in ((value,), (0, value), (value, 0)):
                self.assert_refused(NoDropping, some, house, lambda: house.drop_out(some))
                self.assert_refused(NoReader, some, house, lambda: house.add_work(0, some))

    def test_values_stay_as_they_were(self):
        house = two_and_one()
        for value in ([0, [1]], {0: [1]}, ([0], 1)):
            before = repr(value)
            for call in (house.drop_out, house.come_back, lambda one: house.set_demand(one, one),
                         lambda one: house.set_limit(0, one), lambda one: house.add_work(1, one)):
                with self.assertRaises(ReadError):
                    call(value)
            self.assertEqual(repr(value), before)


class ReasonsTest(HouseCase):

    def test_a_told_reason_is_kept_and_told_again(self):
        house = two_readers()
        self.assertIsNone(house.why_not(0))
        self.assertIsNone(house.why_not(1))
        self.assert_kept(house, [])
        for number in (2, 2, 3, 10 ** 30):
            self.assertEqual(repr(house.why_not(number)), repr(((0,), (0, 1))))
            self.assert_kept(house, [((0,), (0, 1))])
        self.assertIsNone(house.why_not(1))

    def test_the_first_kept_reason_with_few_enough_droppers(self):
        house = two_readers()
        first = house.why_not(2)
        house.set_demand(0, 2)
        second = house.why_not(1)
        self.assertEqual(len(second[1]), 1)
        self.assertEqual([house.why_not(2), house.why_not(1), house.why_not(0)], [first, second, None])
        house.set_demand(0, 3)
        self.assertEqual([house.why_not(1), house.why_not(0)], [second, ((0,), ())])
        self.assertEqual([house.why_not(number) for number in (0, 1, 2)], [((0,), ()), second, first])
        self.assert_kept(house, [first, second, ((0,), ())])

    def test_absent_readers_leave_the_droppers(self):
        house = two_readers()
        house.why_not(2)
        house.drop_out((0,))
        self.assert_kept(house, [((0,), (1,))])
        self.assertEqual(house.why_not(1), ((0,), (1,)))
        house.drop_out((1,))
        self.assert_kept(house, [((0,), ())])
        self.assertEqual(house.why_not(0), ((0,), ()))

    def test_a_reader_who_comes_back_does_not_join_the_droppers(self):
        house = House(Book([2], [(1, (0,))] * 2))
        house.set_demand(0, 3)
        house.set_demand(0, 2)
        works, droppers = house.why_not(1)
        other = 1 - droppers[0]
        house.drop_out((other,))
        self.assert_kept(house, [(works, droppers)])
        house.come_back(other)
        self.assert_kept(house, [(works, droppers)])
        house.drop_out(droppers)
        self.assert_kept(house, [(works, ())])
        house.come_back(droppers[0])
        self.assert_kept(house, [])

    def test_reasons_fall_and_are_gone_for_ever(self):
        house = two_readers()
        house.why_not(2)
        house.set_demand(0, 0)
        self.assert_kept(house, [])
        house.undo()
        self.assert_kept(house, [])
        self.assertEqual(house.why_not(2), ((0,), (0, 1)))
        house.drop_out((0,))
        self.assert_kept(house, [((0,), (1,))])
        house.undo()
        self.assert_kept(house, [])

    def test_an_undoing_lets_reasons_fall(self):
        house = two_readers()
        house.set_demand(0, 3)
        self.assertEqual(house.why_not(0), ((0,), ()))
        house.undo()
        self.assert_kept(house, [])
        house.add_work(1, ())
        self.assertIn(1, house.why_not(0)[0])
        house.undo()
        self.assert_kept(house, [])
        house.drop_out((0,))
        house.come_back(0)
        house.why_not(2)
        house.undo()
        self.assert_kept(house, [((0,), (1,))])

    def test_two_that_have_become_alike_both_stay(self):
        house = two_readers()
        house.why_not(2)
        house.set_demand(0, 2)
        works, droppers = house.why_not(1)
        house.drop_out((1 - droppers[0],))
        self.assert_kept(house, [(works, droppers), (works, droppers)])
        house.drop_out(droppers)
        self.assert_kept(house, [(works, ()), (works, ())])
        house.set_demand(0, 0)
        self.assert_kept(house, [])

    def test_the_others_stay_in_their_order(self):
        house = House(Book([1], [(6, (0,))] * 3))
        first = house.why_not(3)
        house.add_work(1, (0, 1))
        second = house.why_not(2)
        house.add_work(1, (2,))
        third = house.why_not(1)
        self.assertEqual([first, second[1], third], [((0,), (0, 1, 2)), (0, 1), ((2,), (2,))])
        self.assert_kept(house, [first, second, third])
        house.set_demand(1, 0)
        self.assert_kept(house, [first, third])
        house.set_demand(1, 1)
        self.assertEqual(house.why_not(2), third)
        self.assert_kept(house, [first, third])
        house.set_demand(2, 0)
        self.assert_kept(house, [first])

    def test_a_call_that_is_refused_lets_no_reason_fall(self):
        house = two_readers()
        house.why_not(2)
        for call in (lambda: house.drop_out(()), lambda: house.come_back(0), lambda: house.set_limit(5, 0),
                     lambda: house.undo(), lambda: house.set_demand(0, 7), lambda: house.add_work(0, [0])):
            with self.assertRaises(ReadError):
                call()
            self.assert_kept(house, [((0,), (0, 1))])

    def test_every_change_asks_anew(self):
        house = two_readers()
        house.why_not(2)
        house.extend()
        self.assert_kept(house, [((0,), (0, 1))])
        house.lay_anew()
        self.assert_kept(house, [((0,), (0, 1))])
        house.set_limit(0, 6)
        self.assert_kept(house, [((0,), (0, 1))])
        house.set_demand(0, 1)
        self.assert_kept(house, [((0,), (0, 1))])
        house.add_work(0, (0, 1))
        self.assert_kept(house, [((0,), (0, 1))])

    def test_a_limit_lets_a_reason_fall(self):
        house = House(Book([1, 1], [(1, (0, 1))] * 2))
        works, droppers = house.why_not(1)
        self.assertEqual([works, len(droppers)], [(0, 1), 1])
        house.set_limit(1 - droppers[0], 2)
        self.assert_kept(house, [])

    def test_rows_laid_anew_let_a_reason_fall(self):
        house = House(Book([1, 0], [(1, (0, 1)), (1, (0,))]))
        house.drop_out((1,))
        house.extend()
        house.come_back(1)
        house.set_demand(1, 1)
        self.assertEqual(house.why_not(0), ((1,), ()))
        self.assert_done(house, lambda: house.lay_anew(), 0)
        self.assert_kept(house, [])


class BorneNowTest(HouseCase):

    def test_as_borne_tells_it(self):
        house = two_and_one()
        self.assertEqual(house.borne_now(), borne(house.book_now(), house.rows_now(), house.absent_now()))
        house.extend()
        self.assertEqual(house.borne_now(), 0)
        house.set_demand(0, 1)
        self.assertEqual(house.borne_now(), borne(house.book_now(), house.rows_now(), ()))
        house.drop_out((0, 1, 2))
        self.assertEqual(house.borne_now(), -1)
        house.set_demand(0, 0)
        house.set_demand(1, 0)
        self.assertEqual(house.borne_now(), 0)
        house.come_back(2)
        self.assertEqual(house.borne_now(), 1)


class ForkTest(HouseCase):

    def made(self):
        house = two_readers()
        house.why_not(2)
        house.add_work(1, (0,))
        house.why_not(1)
        house.extend()
        return house

    def changed(self, house):
        house.why_not(0)
        house.drop_out((0,))
        house.why_not(0)
        house.set_demand(0, 5)
        house.set_limit(1, 6)
        house.undo()
        house.add_work(1, (1,))

    def test_a_fork_stands_as_the_house_does(self):
        house = self.made()
        other = house.fork()
        self.assertIs(type(other), House)
        self.assertEqual(standing(other), standing(house))
        self.assertEqual(len(other.kept()), 2)
        while len(house):
            self.assertEqual(standing(other), standing(house))
            house.undo()
            other.undo()
        self.assertEqual(standing(other), standing(house))
        self.assert_refused(NothingDone, None, other, lambda: other.undo())

    def test_calls_of_the_one_do_not_change_the_other(self):
        for change in (self.changed, lambda house: [house.undo() for _ in range(2)], lambda house: house.why_not(5)):
            house = self.made()
            other = house.fork()
            before = standing(house)
            change(other)
            self.assertEqual(standing(house), before)
            other = house.fork()
            change(house)
            self.assertEqual(standing(other), before)

    def test_a_fork_of_a_fork(self):
        house = self.made()
        third = house.fork().fork()
        before = standing(house)
        self.changed(house)
        self.assertEqual(standing(third), before)
        third.undo()
        third.undo()
        self.assertEqual([len(third), third.book_now()], [0, Book([1], [(1, (0,))] * 2)])

    def test_a_fork_is_no_change(self):
        house = self.made()
        self.assertEqual([len(house), len(house.fork()), len(house)], [2, 2, 2])
        self.assertIsNot(house.fork(), house)


class CopiesTest(HouseCase):

    def test_told_lists_are_new(self):
        house = two_and_one()
        house.extend()
        house.why_not(1)
        told = [house.rows_now(), house.rows_now(), house.kept(), house.kept()]
        told += [house.fork().rows_now(), house.fork().kept()]
        self.assertEqual(len({id(one) for one in told}), 6)
        before = standing(house)
        for one in told:
            one.clear()
            one.append(9)
        self.assertEqual(standing(house), before)
        house.undo()
        house.rows_now().append(9)
        self.assertEqual(house.rows_now(), [(), (), ()])

    def test_a_told_book_stays_as_it_is(self):
        house = two_and_one()
        told = house.book_now()
        house.set_demand(0, 6)
        house.set_limit(0, 6)
        house.add_work(1, (0, 1))
        self.assertEqual(told, Book([2, 1], READERS))
        self.assertEqual(house.book_now(), Book([6, 1, 1], [(6, (0, 2)), (1, (0, 1, 2)), (1, (1,))]))
        house.book_now().demands().clear()
        house.book_now().readers().clear()
        self.assertEqual(house.book_now().demands(), [6, 1, 1])

    def test_told_rows_stay_as_they_are(self):
        house = two_and_one()
        house.extend()
        told, reasons = house.rows_now(), [house.why_not(1)]
        before = repr([told, reasons])
        house.drop_out((0, 1))
        house.undo()
        house.undo()
        self.assertEqual(repr([told, reasons]), before)


class NamesTest(HouseCase):

    def test_arguments_by_name(self):
        house = House(book=Book([2, 1], READERS))
        found = [house.drop_out(readers=(0,)), house.come_back(reader=0), house.set_demand(demand=1, work=0)]
        found += [house.set_limit(limit=2, reader=1), house.add_work(readers=(0,), demand=0), house.why_not(number=0)]
        self.assertEqual(found, [None, None, None, None, 2, None])
        self.assertEqual(house.book_now(), Book([1, 1, 0], [(1, (0, 2)), (2, (0, 1)), (1, (1,))]))

    def test_refused_arguments_by_name(self):
        house = two_and_one()
        self.assert_refused(NoDropping, None, house, lambda: house.drop_out(readers=None))
        self.assert_refused(NoComing, None, house, lambda: house.come_back(reader=None))
        self.assert_refused(NoWork, None, house, lambda: house.set_demand(demand=None, work=None))
        self.assert_refused(NoReader, None, house, lambda: house.set_limit(limit=None, reader=None))
        self.assert_refused(BadDemand, None, house, lambda: house.add_work(readers=None, demand=None))
