"""relaid and bound against all good rows of small books, and against a plain look at each bound."""

from random import Random

from eachworkread.errors import Short
from eachworkread.relaid import bound, relaid
from tests.helper import drawn_cases, drawn_mixed_cases, drawn_prices, told_of
from tests.plain import plain_bound, plain_good_rows, plain_kept, plain_short_sets
from tests.test_relaid import RelaidCase


def small_cases(seed):
    return drawn_mixed_cases(seed, 400, 4, 4) + drawn_mixed_cases(seed + 1, 300, 2, 5) + drawn_cases(seed, 150, 4)


class DrawnRelaidTest(RelaidCase):

    def test_against_all_good_rows(self):
        seen = {True: 0, False: 0}
        for book, rows, absent in small_cases(71):
            every = plain_good_rows(book, absent)
            seen[bool(every)] += 1
            if every:
                wanted = max(plain_kept(rows, value, absent) for value in every)
                self.assertIn(self.assert_relaid(book, rows, absent, wanted)[1], every)
            else:
                self.assert_short(book, rows, absent)
        self.assertGreater(min(seen.values()), 150)

    def test_good_rows_are_kept_whole(self):
        for book, _, absent in small_cases(72):
            for value in plain_good_rows(book, absent)[:10]:
                number = sum(len(row) for row in value)
                self.assertEqual(self.assert_relaid(book, value, absent, number)[1], value)

    def test_great_books(self):
        seen, prices_seen = {True: 0, False: 0}, set()
        for book, rows, absent in drawn_mixed_cases(73, 700, 6, 6) + drawn_cases(73, 200, 6):
            short = plain_short_sets(book, absent)
            seen[bool(short)] += 1
            if short:
                with self.assertRaises(Short) as caught:
                    relaid(book, rows, absent)
                self.assertIn(caught.exception.works, short)
            else:
                prices_seen |= set(self.assert_relaid(book, rows, absent)[2])
        self.assertGreater(min(seen.values()), 100)
        self.assertLessEqual({-2, -1, 0, 1}, prices_seen)


class DrawnBoundTest(RelaidCase):

    def test_against_a_plain_look(self):
        random = Random(74)
        for book, rows, absent in drawn_cases(74, 300, 6) + drawn_mixed_cases(74, 300, 6, 6):
            for most in (0, 1, 3, 10 ** 20):
                prices = drawn_prices(random, book, most)
                before = told_of(book, rows, absent, prices)
                found = bound(book, rows, absent, prices)
                self.assertEqual(repr(found), repr(plain_bound(book, rows, absent, prices)), before)
                self.assertEqual(told_of(book, rows, absent, prices), before)

    def test_no_good_rows_keep_more_than_the_bound_of_any_prices(self):
        random = Random(75)
        met = 0
        for book, rows, absent in small_cases(75):
            every = plain_good_rows(book, absent)
            for most in (1, 2, 5) if every else []:
                greatest = max(plain_kept(rows, value, absent) for value in every)
                for _ in range(3):
                    found = bound(book, rows, absent, drawn_prices(random, book, most))
                    self.assertGreaterEqual(found, greatest)
                    met += found == greatest
        self.assertGreater(met, 100)
