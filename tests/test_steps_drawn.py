"""step, is_chain and is_closed against plain looks by the words of point 9, at drawn books."""

import unittest
from random import Random

from eachworkread.rows import is_rows
from eachworkread.steps import is_chain, is_closed, step
from tests.helper import altered_once_and_twice, drawn_steps, few_odd_values, sets_of_works
from tests.plain import plain_chains, plain_closed_sets


def times(book, rows):
    told = [work for row in rows for work in row]
    return [told.count(work) for work in range(len(book))]


class DrawnStepsCase(unittest.TestCase):

    def assert_walkable(self, book, kept, rows, absent, work, chain):
        """Walk the chain link by link: behind it the work is read once more, and all others as often as before."""
        behind, wanted, met = [set(row) for row in rows], work, set()
        for reader, takes, gives in chain:
            self.assertNotIn(reader, met | set(absent))
            self.assertEqual(takes, wanted)
            self.assertNotIn(takes, behind[reader])
            behind[reader].add(takes)
            if gives is not None:
                self.assertNotIn(gives, kept[reader])
                behind[reader].remove(gives)
            met.add(reader)
            wanted = gives
        self.assertIsNone(wanted)
        told = [tuple(sorted(row)) for row in behind]
        self.assertIs(is_rows(book, told), True)
        expected = times(book, rows)
        expected[work] += 1
        self.assertEqual(times(book, told), expected)
        for reader in set(range(len(rows))) - set(absent):
            self.assertLessEqual(set(kept[reader]), behind[reader])

    def assert_kinds(self, found):
        self.assertIs(type(found), tuple)
        self.assertEqual(len(found), 2)
        self.assertIs(type(found[0]), str)
        self.assertIs(type(found[1]), list if found[0] == "chain" else tuple)
        for link in found[1]:
            if found[0] == "chain":
                self.assertIs(type(link), tuple)
                self.assertLessEqual({type(part) for part in link}, {int, type(None)})
            else:
                self.assertIs(type(link), int)


class StepTest(DrawnStepsCase):

    def test_each_told_chain_and_closed_set(self):
        lengths, sizes = set(), set()
        for book, kept, rows, absent in drawn_steps(11, 1500, 6):
            closed = plain_closed_sets(book, kept, rows, absent)
            for work in range(len(book)):
                before = repr([book.demands(), book.readers(), kept, rows, absent])
                found = step(book, kept, rows, absent, work)
                self.assertEqual(repr([book.demands(), book.readers(), kept, rows, absent]), before)
                self.assertEqual(repr(step(book, kept, rows, absent, work)), repr(found))
                self.assert_kinds(found)
                if found[0] == "chain":
                    self.assert_walkable(book, kept, rows, absent, work, found[1])
                    self.assertIs(is_chain(book, kept, rows, absent, work, found[1]), True)
                    self.assertEqual([works for works in closed if work in works], [])
                    lengths.add(len(found[1]))
                else:
                    self.assertEqual(found[0], "closed")
                    self.assertIn(work, found[1])
                    self.assertIn(found[1], closed)
                    self.assertIs(is_closed(book, kept, rows, absent, found[1]), True)
                    sizes.add(len(found[1]))
        self.assertLessEqual({1, 2, 3, 4}, lengths)
        self.assertLessEqual({1, 2, 3, 4}, sizes)

    def test_a_chain_or_a_closed_set_and_never_both(self):
        seen = set()
        for book, kept, rows, absent in drawn_steps(12, 1000, 4):
            closed = plain_closed_sets(book, kept, rows, absent)
            for work in range(len(book)):
                chains = plain_chains(book, kept, rows, absent, work)
                for chain in chains:
                    self.assert_walkable(book, kept, rows, absent, work, chain)
                kind, found = step(book, kept, rows, absent, work)
                seen.add(kind)
                self.assertEqual(kind, "chain" if chains else "closed")
                self.assertEqual(not chains, any(work in works for works in closed))
                self.assertIn(found, chains or closed)
        self.assertEqual(seen, {"chain", "closed"})


class IsChainTest(DrawnStepsCase):

    def test_all_chains_and_chains_for_other_works(self):
        for book, kept, rows, absent in drawn_steps(13, 400, 4):
            chains = [plain_chains(book, kept, rows, absent, work) for work in range(len(book))]
            for work in range(len(book)):
                for other, some in enumerate(chains):
                    for chain in some:
                        self.assertIs(is_chain(book, kept, rows, absent, work, chain), work == other, chain)

    def test_chains_in_which_one_or_two_things_are_exchanged(self):
        random = Random(14)
        seen = {True: 0, False: 0}
        for book, kept, rows, absent in drawn_steps(14, 250, 5):
            for work in range(len(book)):
                chains = plain_chains(book, kept, rows, absent, work)
                legal = {repr(chain) for chain in chains}
                near = max(chains, key=len) if chains else [(0, work, None)]
                values = altered_once_and_twice(random, near, 20) + few_odd_values()
                values += altered_once_and_twice(random, step(book, kept, rows, absent, work)[1], 10)
                for value in values:
                    before = repr(value)
                    found = is_chain(book, kept, rows, absent, work, value)
                    self.assertIs(found, before in legal, (book.readers(), kept, rows, absent, work, value))
                    self.assertEqual(repr(value), before)
                    seen[found] += 1
        self.assertGreater(min(seen.values()), 100)


class IsClosedTest(DrawnStepsCase):

    def test_all_sets_of_works(self):
        seen = {True: 0, False: 0}
        for book, kept, rows, absent in drawn_steps(15, 600, 6):
            closed = plain_closed_sets(book, kept, rows, absent)
            for works in sets_of_works(book):
                found = is_closed(book, kept, rows, absent, works)
                self.assertIs(found, works in closed, (book.readers(), kept, rows, absent, works))
                seen[found] += 1
        self.assertGreater(min(seen.values()), 1000)

    def test_closed_sets_in_which_one_or_two_things_are_exchanged(self):
        random = Random(16)
        seen = {True: 0, False: 0}
        for book, kept, rows, absent in drawn_steps(16, 300, 6):
            closed = plain_closed_sets(book, kept, rows, absent)
            legal = {repr(works) for works in closed}
            told = [step(book, kept, rows, absent, work)[1] for work in range(len(book))]
            for near in closed[:3] + told:
                for value in altered_once_and_twice(random, near, 10) + few_odd_values():
                    before = repr(value)
                    found = is_closed(book, kept, rows, absent, value)
                    self.assertIs(found, before in legal, (book.readers(), kept, rows, absent, value))
                    self.assertEqual(repr(value), before)
                    seen[found] += 1
        self.assertGreater(min(seen.values()), 100)
