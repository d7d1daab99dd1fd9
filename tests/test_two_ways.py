"""What is told in two ways is alike: by several modules, under other numbers, and by two books beside one another."""

import unittest
from random import Random

from eachworkread.books import Book
from eachworkread.droppings import borne, is_reason, reason
from eachworkread.errors import Short, TooFew
from eachworkread.extending import extension
from eachworkread.further import further_limits
from eachworkread.goodrows import good_rows, good_with, least_tight, pair, readings
from eachworkread.house import House
from eachworkread.relaid import bound, relaid
from eachworkread.rows import count, extends, is_enough, is_good, is_rows, is_short
from eachworkread.steps import is_chain, is_closed, step
from tests.helper import (
    drawn_cases, drawn_mixed_cases, drawn_prices, drawn_steps, drawn_subset, sets_of_works, told_of,
)
from tests.plain import present


def told(call):
    """Return what the call tells; for Short just its class, and for TooFew the class and the work."""
    try:
        return call()
    except Short:
        return Short
    except TooFew as error:
        return TooFew, error.work


def all_cases(seed, many=250):
    return drawn_cases(seed, many, 6) + drawn_mixed_cases(seed, many, 4, 4) + drawn_mixed_cases(seed, many, 6, 6)


class TwoFunctionsTest(unittest.TestCase):

    def test_extension_and_borne_zero_and_further_limits_zero(self):
        seen = {"yes": 0, "no": 0, TooFew: 0}
        for book, rows, absent in all_cases(81):
            kind, found = extension(book, rows, absent)
            seen[kind] += 1
            self.assertEqual(kind == "yes", borne(book, rows, absent) >= 0)
            self.assertEqual(kind == "yes", reason(book, rows, absent, 0) is None)
            if kind == "no":
                self.assertIs(is_reason(book, rows, absent, 0, (found, ())), True)
            further = told(lambda: further_limits(book, rows, absent))
            if further[0] == TooFew:
                self.assertEqual(kind, "no")
                seen[TooFew] += 1
            else:
                self.assertEqual(kind == "yes", further[0] == 0)
                self.assertIs(extends(book, rows, absent, further[2]), kind == "yes")
                self.assertEqual(further[3] == (), kind == "yes")
        self.assertGreater(min(seen.values()), 50)

    def test_good_rows_and_extension_of_rows_in_which_nobody_reads(self):
        seen = {"yes": 0, "no": 0}
        for book, rows, absent in all_cases(82):
            nothing = [()] * len(rows)
            kind, found = good_rows(book, absent)
            seen[kind] += 1
            self.assertEqual(extension(book, nothing, absent)[0], kind)
            self.assertEqual(borne(book, nothing, absent) >= 0, kind == "yes")
            if kind == "yes":
                self.assertIs(extends(book, nothing, absent, found), True)
                self.assertIs(is_good(book, found) and is_enough(book, found) and is_rows(book, found), True)
                self.assertEqual(relaid(book, nothing, absent)[0], 0)
            else:
                self.assertIs(is_short(book, nothing, absent, found), True)
                self.assertIs(told(lambda: relaid(book, rows, absent)), Short)
        self.assertGreater(min(seen.values()), 100)

    def test_pairs_and_readings_and_chosen_works(self):
        for book, _, absent in drawn_mixed_cases(83, 150, 4, 4):
            if good_rows(book, absent)[0] == "yes":
                for reader in present(book, absent):
                    every = [works for works in [()] + sets_of_works(book) if good_with(book, absent, reader, works)]
                    sizes = [len(works) for works in every]
                    self.assertEqual(readings(book, absent, reader), (min(sizes), max(sizes)))
                    for work in range(len(book)):
                        within = [work in works for works in every]
                        self.assertEqual(pair(book, absent, reader, work), (True in within, False in within))

    def test_keeping_all_and_good_rows(self):
        for book, rows, absent in all_cases(84, 100):
            found = told(lambda: relaid(book, rows, absent))
            if found is not Short:
                again = relaid(book, found[1], absent)
                self.assertEqual(again[:2], (sum(len(row) for row in found[1]), found[1]))
                here = [len(rows[reader]) for reader in present(book, absent)]
                self.assertEqual(found[1] == rows, is_good(book, rows) and sum(here) == sum(len(row) for row in rows))
                kept = extension(book, rows, absent)
                if kept[0] == "yes" and is_good(book, kept[1]):
                    self.assertEqual(found[0], sum(here))

    def test_a_house_and_the_functions(self):
        for book, _, absent in all_cases(85, 60):
            house = House(book)
            if absent:
                house.drop_out(absent)
            self.assertEqual(house.borne_now(), borne(book, [()] * len(book.readers()), absent))
            self.assertEqual(house.why_not(2), reason(book, [()] * len(book.readers()), absent, 2))
            kind, found = good_rows(book, absent)
            if kind == "yes":
                house.extend()
                self.assertIs(is_good(book, house.rows_now()), True)
                self.assertEqual(house.rows_now(), extension(book, [()] * len(book.readers()), absent)[1])
                self.assertEqual(house.lay_anew(), sum(book.demands()))
            else:
                self.assertIs(told(house.extend), Short)
                self.assertIs(told(house.lay_anew), Short)


class Renumbered:
    """A book, rows and absent readers with works and readers numbered in another, drawn order."""

    def __init__(self, random, book, rows, absent):
        self.new_work = random.sample(range(len(book)), len(book))
        self.new_reader = random.sample(range(len(rows)), len(rows))
        demands, readers = [None] * len(book), [None] * len(rows)
        for work, demand in enumerate(book.demands()):
            demands[self.new_work[work]] = demand
        for reader, (limit, may) in enumerate(book.readers()):
            readers[self.new_reader[reader]] = (limit, self.works(may))
        self.book, self.rows, self.absent = Book(demands, readers), self.other_rows(rows), self.readers(absent)

    def works(self, works):
        return None if works is None else tuple(sorted(self.new_work[work] for work in works))

    def readers(self, readers):
        return tuple(sorted(self.new_reader[reader] for reader in readers))

    def other_rows(self, rows):
        found = [None] * len(rows)
        for reader, row in enumerate(rows):
            found[self.new_reader[reader]] = self.works(row)
        return found

    def prices(self, prices):
        found = [None] * len(prices)
        for work, price in enumerate(prices):
            found[self.new_work[work]] = price
        return found


class OtherNumbersTest(unittest.TestCase):

    def renumbered_cases(self, seed, many):
        random = Random(seed)
        return [(case, Renumbered(random, *case)) for case in all_cases(seed, many)]

    def test_rows_and_counts(self):
        for (book, rows, absent), other in self.renumbered_cases(86, 60):
            self.assertIs(is_rows(other.book, other.rows), True)
            self.assertIs(is_good(other.book, other.rows), is_good(book, rows))
            self.assertIs(is_enough(other.book, other.rows), is_enough(book, rows))
            for works in sets_of_works(book):
                found = is_short(other.book, other.rows, other.absent, other.works(works))
                self.assertIs(found, is_short(book, rows, absent, works))
                for reader in range(len(rows)):
                    found = count(other.book, other.rows, other.new_reader[reader], other.works(works))
                    self.assertEqual(found, count(book, rows, reader, works))

    def test_steps(self):
        random = Random(87)
        for book, kept, rows, absent in drawn_steps(87, 300, 5):
            other = Renumbered(random, book, rows, absent)
            other_kept = other.other_rows(kept)
            for work in range(len(book)):
                kind, found = step(book, kept, rows, absent, work)
                new = other.new_work[work]
                self.assertEqual(step(other.book, other_kept, other.rows, other.absent, new)[0], kind)
                if kind == "chain":
                    chain = [(other.new_reader[reader], other.new_work[takes], gives if gives is None else
                              other.new_work[gives]) for reader, takes, gives in found]
                    self.assertIs(is_chain(other.book, other_kept, other.rows, other.absent, new, chain), True)
                else:
                    works = other.works(found)
                    self.assertIs(is_closed(other.book, other_kept, other.rows, other.absent, works), True)

    def test_extensions_and_droppings_and_further_limits(self):
        for (book, rows, absent), other in self.renumbered_cases(88, 150):
            kind, found = extension(book, rows, absent)
            self.assertEqual(extension(other.book, other.rows, other.absent)[0], kind)
            if kind == "yes":
                self.assertIs(extends(other.book, other.rows, other.absent, other.other_rows(found)), True)
            self.assertEqual(borne(other.book, other.rows, other.absent), borne(book, rows, absent))
            told_reason = reason(book, rows, absent, 6)
            if told_reason is not None:
                value = (other.works(told_reason[0]), other.readers(told_reason[1]))
                self.assertIs(is_reason(other.book, other.rows, other.absent, 6, value), True)
            further = told(lambda: further_limits(book, rows, absent))
            again = told(lambda: further_limits(other.book, other.rows, other.absent))
            # Which work is the first with too few readers depends on the numbers of the works.
            self.assertEqual(again[0], further[0], told_of(book, rows, absent))

    def test_good_rows(self):
        random = Random(89)
        for (book, _, absent), other in self.renumbered_cases(89, 60):
            self.assertEqual(good_rows(other.book, other.absent)[0], good_rows(book, absent)[0])
            for work in range(len(book)):
                new = other.new_work[work]
                found = told(lambda: least_tight(book, absent, work))
                again = told(lambda: least_tight(other.book, other.absent, new))
                self.assertEqual(again, found if found is Short else other.works(found))
                for reader in present(book, absent):
                    found = told(lambda: pair(book, absent, reader, work))
                    again = told(lambda: pair(other.book, other.absent, other.new_reader[reader], new))
                    self.assertEqual(again, found)
            for reader in present(book, absent):
                new = other.new_reader[reader]
                found = told(lambda: readings(book, absent, reader))
                self.assertEqual(told(lambda: readings(other.book, other.absent, new)), found)
                works = drawn_subset(random, book.readers()[reader][1])
                found = good_with(book, absent, reader, works)
                again = good_with(other.book, other.absent, new, other.works(works))
                self.assertEqual(found is None, again is None)

    def test_rows_laid_anew(self):
        random = Random(90)
        for (book, rows, absent), other in self.renumbered_cases(90, 150):
            prices = drawn_prices(random, book, 3)
            found = bound(other.book, other.rows, other.absent, other.prices(prices))
            self.assertEqual(found, bound(book, rows, absent, prices))
            first = told(lambda: relaid(book, rows, absent))
            second = told(lambda: relaid(other.book, other.rows, other.absent))
            if first is Short:
                self.assertIs(second, Short)
            else:
                self.assertEqual(second[0], first[0])
                self.assertEqual(bound(other.book, other.rows, other.absent, other.prices(first[2])), first[0])


class Beside:
    """Two books beside one another: the works and readers of the second one come behind those of the first one."""

    def __init__(self, first, second):
        (book, rows, absent), (other, other_rows, other_absent) = first, second
        self.works, self.readers = len(book), len(rows)
        behind = [(limit, self.shifted(may)) for limit, may in other.readers()]
        self.book = Book(book.demands() + other.demands(), book.readers() + behind)
        self.rows = rows + [self.shifted(row) for row in other_rows]
        self.absent = absent + tuple(reader + self.readers for reader in other_absent)

    def shifted(self, works):
        return None if works is None else tuple(work + self.works for work in works)


class TwoBooksTest(unittest.TestCase):

    def pairs_of_cases(self, seed, many):
        cases = drawn_cases(seed, many, 3) + drawn_mixed_cases(seed, 3 * many, 3, 3)
        Random(seed).shuffle(cases)
        return [(one, two, Beside(one, two)) for one, two in zip(cases[::2], cases[1::2])]

    def test_extensions(self):
        for one, two, both in self.pairs_of_cases(91, 150):
            kinds = [extension(*one)[0], extension(*two)[0]]
            self.assertEqual(extension(both.book, both.rows, both.absent)[0], "no" if "no" in kinds else "yes")

    def test_droppings(self):
        seen = set()
        for one, two, both in self.pairs_of_cases(92, 150):
            # What is borne whoever drops out bars nothing in the other book.
            numbers = [borne(*case) for case in (one, two) if reason(*case, 9) is not None]
            wanted = min(numbers + [len(present(both.book, both.absent))])
            self.assertEqual(borne(both.book, both.rows, both.absent), wanted)
            seen.add(wanted)
        self.assertLessEqual({-1, 0, 1}, seen)

    def test_further_limits(self):
        seen = set()
        for one, two, both in self.pairs_of_cases(93, 150):
            first, second = told(lambda: further_limits(*one)), told(lambda: further_limits(*two))
            found = told(lambda: further_limits(both.book, both.rows, both.absent))
            if first[0] == TooFew:
                self.assertEqual(found, first)
            elif second[0] == TooFew:
                self.assertEqual(found, (TooFew, second[1] + both.works))
            else:
                self.assertEqual(found[0], first[0] + second[0])
                seen.add(found[0])
        self.assertLessEqual({0, 1, 2, 3}, seen)

    def test_good_rows(self):
        for one, two, both in self.pairs_of_cases(94, 100):
            kinds = [good_rows(case[0], case[2])[0] for case in (one, two)]
            self.assertEqual(good_rows(both.book, both.absent)[0], "no" if "no" in kinds else "yes")
            if kinds == ["yes", "yes"]:
                (book, _, absent), (other, _, other_absent) = one, two
                for work in range(len(book)):
                    self.assertEqual(least_tight(both.book, both.absent, work), least_tight(book, absent, work))
                for work in range(len(other)):
                    wanted = both.shifted(least_tight(other, other_absent, work))
                    self.assertEqual(least_tight(both.book, both.absent, work + both.works), wanted)
                for reader in present(book, absent):
                    self.assertEqual(readings(both.book, both.absent, reader), readings(book, absent, reader))
                for reader in present(other, other_absent):
                    wanted = readings(other, other_absent, reader)
                    self.assertEqual(readings(both.book, both.absent, reader + both.readers), wanted)
                    for work in range(len(other)):
                        found = pair(both.book, both.absent, reader + both.readers, work + both.works)
                        self.assertEqual(found, pair(other, other_absent, reader, work))

    def test_rows_laid_anew(self):
        for one, two, both in self.pairs_of_cases(95, 150):
            first, second = told(lambda: relaid(*one)), told(lambda: relaid(*two))
            found = told(lambda: relaid(both.book, both.rows, both.absent))
            if Short in (first, second):
                self.assertIs(found, Short)
            else:
                self.assertEqual(found[0], first[0] + second[0])
                self.assertEqual(bound(both.book, both.rows, both.absent, first[2] + second[2]), found[0])
