"""Good rows against all good rows of small books, and against plain counts of all sets of great ones."""

import unittest
from random import Random

from eachworkread.books import Book
from eachworkread.goodrows import good_rows, good_with, least_tight, pair, readings
from tests.helper import drawn_cases, drawn_mixed_cases, drawn_subset, sets_of_works, subsets, told_of
from tests.plain import (
    plain_differences, plain_good_rows, plain_least_tight, plain_nothing, plain_short_sets, present,
)
from tests.test_goodrows import GoodRowsCase


def altered_reader(book, reader, limit, may, fewer):
    """Return the book with another limit and other works for the reader, and fewer demands by one of some works."""
    readers = book.readers()
    readers[reader] = (limit, may)
    return Book([demand - (work in fewer) for work, demand in enumerate(book.demands())], readers)


def plain_pair(book, absent, reader, work):
    """Return what pair should tell, by plain counts of the sets of two books in which it is settled."""
    limit, may = book.readers()[reader]
    rest = tuple(sorted(set(may) - {work}))
    left_out = not plain_short_sets(altered_reader(book, reader, limit, rest, ()), absent)
    if work not in may or limit == 0 or book.demands()[work] == 0:
        return False, left_out
    return not plain_short_sets(altered_reader(book, reader, limit - 1, rest, (work,)), absent), left_out


def plain_readings(book, absent, reader):
    """Point 13 by plain counts of all sets."""
    others = tuple(sorted(absent + (reader,)))
    least = max(0, *plain_differences(book, plain_nothing(book), others).values())
    limit, may = book.readers()[reader]
    return least, min(limit, sum(1 for work in may if book.demands()[work] > 0))


def plain_is_with(book, absent, reader, works):
    """Return True if there should be good rows in which the reader reads just the works."""
    limit, may = book.readers()[reader]
    if len(works) > limit or not set(works) <= {work for work in may if book.demands()[work] > 0}:
        return False
    return not plain_short_sets(altered_reader(book, reader, 0, (), works), absent)


class SmallBooksTest(GoodRowsCase):

    def small_cases(self, seed):
        return drawn_mixed_cases(seed, 350, 4, 4) + drawn_mixed_cases(seed + 1, 250, 2, 5) + drawn_cases(seed, 150, 4)

    def test_good_rows(self):
        seen = {"yes": 0, "no": 0}
        for book, _, absent in self.small_cases(51):
            before = told_of(book, absent)
            kind, value = found = good_rows(book, absent)
            self.assertEqual(told_of(book, absent), before)
            self.assertEqual(repr(good_rows(book, absent)), repr(found))
            every = plain_good_rows(book, absent)
            self.assertEqual(kind, "yes" if every else "no", before)
            seen[kind] += 1
            if kind == "yes":
                self.assertIn(value, every)
                self.assert_good(book, absent, value)
            else:
                self.assertIn(value, plain_short_sets(book, absent))
                self.assert_no(book, absent)
        self.assertGreater(min(seen.values()), 150)

    def test_least_tight(self):
        seen = {}
        for book, _, absent in self.small_cases(52):
            every = plain_good_rows(book, absent)
            for work in range(len(book)) if every else []:
                found = least_tight(book, absent, work)
                self.assertEqual(found, plain_least_tight(book, absent, work), told_of(book, absent, work))
                size = 0 if found is None else len(found)
                seen[size] = seen.get(size, 0) + 1
        self.assertGreater(min(seen[size] for size in range(4)), 20)

    def test_a_work_in_no_tight_set_could_be_read_once_more(self):
        for book, _, absent in self.small_cases(53):
            if plain_good_rows(book, absent):
                for work in range(len(book)):
                    demands = book.demands()
                    demands[work] += 1
                    if demands[work] < 7:
                        more = plain_good_rows(Book(demands, book.readers()), absent)
                        self.assertEqual(least_tight(book, absent, work) is None, bool(more))

    def test_pair(self):
        seen = {}
        for book, _, absent in self.small_cases(54):
            every = plain_good_rows(book, absent)
            for reader in present(book, absent) if every else []:
                for work in range(len(book)):
                    within = [work in rows[reader] for rows in every]
                    wanted = (True in within, False in within)
                    self.assert_pair(wanted, book, absent, reader, work)
                    self.assertEqual(plain_pair(book, absent, reader, work), wanted)
                    seen[wanted] = seen.get(wanted, 0) + 1
        self.assertEqual(set(seen), {(True, False), (False, True), (True, True)})
        self.assertGreater(min(seen.values()), 300)

    def test_readings(self):
        seen = set()
        for book, _, absent in self.small_cases(55):
            every = plain_good_rows(book, absent)
            for reader in present(book, absent) if every else []:
                numbers = {len(rows[reader]) for rows in every}
                found = readings(book, absent, reader)
                self.assertEqual(repr(found), repr((min(numbers), max(numbers))), told_of(book, absent, reader))
                self.assertEqual(numbers, set(range(found[0], found[1] + 1)))
                self.assertEqual(plain_readings(book, absent, reader), found)
                seen.add(found)
        self.assertLessEqual({(0, 0), (0, 1), (0, 2), (0, 3), (1, 1), (1, 2), (1, 3), (2, 2), (2, 3), (3, 3)}, seen)

    def test_good_with(self):
        seen = {True: 0, False: 0}
        for book, _, absent in self.small_cases(56):
            every = plain_good_rows(book, absent)
            for reader in present(book, absent):
                for works in subsets(range(len(book))):
                    before = told_of(book, absent, reader, works)
                    value = good_with(book, absent, reader, works)
                    self.assertEqual(told_of(book, absent, reader, works), before)
                    some = [rows for rows in every if rows[reader] == works]
                    self.assertEqual(value is None, not some, before)
                    if some:
                        self.assertIn(value, some)
                        self.assert_good(book, absent, value)
                    seen[bool(some)] += 1
        self.assertGreater(min(seen.values()), 1000)


class GreatBooksTest(GoodRowsCase):

    def great_cases(self, seed, many=60):
        cases = drawn_mixed_cases(seed, many, 6, 6)
        return [case for case in cases if len(case[0]) > 4 and len(case[0].readers()) > 4]

    def test_good_rows_and_least_tight(self):
        seen = {"yes": 0, "no": 0}
        for book, _, absent in self.great_cases(61, 400):
            short = plain_short_sets(book, absent)
            kind, value = good_rows(book, absent)
            self.assertEqual(kind, "no" if short else "yes")
            seen[kind] += 1
            if short:
                self.assertIn(value, short)
            else:
                self.assert_good(book, absent, value)
                for work in range(len(book)):
                    self.assertEqual(least_tight(book, absent, work), plain_least_tight(book, absent, work))
        self.assertGreater(min(seen.values()), 10)

    def test_pair_and_readings(self):
        seen = set()
        for book, _, absent in self.great_cases(62, 150):
            for reader in present(book, absent) if not plain_short_sets(book, absent) else []:
                least, greatest = readings(book, absent, reader)
                self.assertEqual((least, greatest), plain_readings(book, absent, reader))
                seen.add((least, greatest))
                for work in range(len(book)):
                    self.assert_pair(plain_pair(book, absent, reader, work), book, absent, reader, work)
        self.assertGreater(len(seen), 12)

    def test_good_with(self):
        random = Random(63)
        seen = {True: 0, False: 0}
        for book, _, absent in self.great_cases(63, 150):
            kind, found = good_rows(book, absent)
            for reader in present(book, absent):
                some = [drawn_subset(random, book.readers()[reader][1]), drawn_subset(random, range(len(book))), ()]
                for works in some + ([found[reader]] if kind == "yes" else []):
                    value = good_with(book, absent, reader, works)
                    seen[value is None] += 1
                    self.assertEqual(value is not None, plain_is_with(book, absent, reader, works))
                    if value is not None:
                        self.assert_good(book, absent, value)
                        self.assertEqual(value[reader], works)
        self.assertGreater(min(seen.values()), 100)

    def test_tight_sets_have_tight_sets_in_common(self):
        seen = 0
        for book, _, absent in self.great_cases(64, 300):
            if not plain_short_sets(book, absent):
                differences = plain_differences(book, plain_nothing(book), absent)
                tight = [works for works in sets_of_works(book) if differences[works] == 0]
                for one in tight:
                    for work in one:
                        seen += 1
                        self.assertLessEqual(set(least_tight(book, absent, work)), set(one))
                        self.assertIn(least_tight(book, absent, work), tight)
        self.assertGreater(seen, 300)
