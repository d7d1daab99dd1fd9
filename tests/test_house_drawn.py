"""Drawn houses, and forks of them, against a plain model by the words of points 15, 16 and 17."""

import unittest
from random import Random

from eachworkread.books import Book
from eachworkread.errors import (
    BadDemand, BadLimit, NoComing, NoDropping, NoReader, NothingDone, NoWork, ReadError, Short, TooManyWorks,
)
from eachworkread.extending import extension
from eachworkread.house import House
from eachworkread.relaid import relaid
from tests.helper import drawn_book, drawn_good_book, drawn_subset, few_odd_values, sets_of_works, subsets
from tests.plain import (
    plain_extends, plain_greatest_borne, plain_is_good, plain_is_short, plain_kept, plain_short_sets, present,
)

ATTRIBUTES = {
    NoDropping: "droppers", NoComing: "reader", BadDemand: "demand", BadLimit: "limit",
    NoWork: "work", NoReader: "reader", TooManyWorks: None, NothingDone: None,
}
CHANGES = ["drop_out", "come_back", "extend", "lay_anew", "set_demand", "set_limit", "add_work"]


def is_one_of(value, legal):
    return any(type(value) is type(one) and repr(value) == repr(one) for one in legal)


class Model:
    """A house in plain parts. Its methods return (None, what is told), or (the error's class, what it tells)."""

    def __init__(self, book):
        self.demands, self.readers = book.demands(), book.readers()
        self.rows, self.absent = [()] * len(self.readers), ()
        self.before, self.reasons = [], []

    def copy(self):
        other = Model(self.book())
        other.rows, other.absent = list(self.rows), self.absent
        other.before, other.reasons = list(self.before), list(self.reasons)
        return other

    def book(self):
        return Book(self.demands, self.readers)

    def state(self):
        return list(self.demands), list(self.readers), list(self.rows), self.absent

    def is_reason(self, number, value):
        works, droppers = value
        here = [reader for reader in range(len(self.readers)) if reader not in self.absent]
        if works not in sets_of_works(self.book()) or droppers not in subsets(here) or len(droppers) > number:
            return False
        return plain_is_short(self.book(), self.rows, self.absent + droppers, works)

    def sift(self):
        told = [(works, tuple(sorted(set(droppers) - set(self.absent)))) for works, droppers in self.reasons]
        self.reasons = [one for one in told if self.is_reason(len(one[1]), one)]

    def done(self, before, told=None):
        self.before.append(before)
        self.sift()
        return None, told

    def drop_out(self, readers):
        here = [reader for reader in range(len(self.readers)) if reader not in self.absent]
        if not is_one_of(readers, subsets(here)[1:]):
            return NoDropping, readers
        before = self.state()
        self.absent = tuple(sorted(self.absent + readers))
        self.rows = [() if reader in self.absent else row for reader, row in enumerate(self.rows)]
        return self.done(before)

    def come_back(self, reader):
        if not is_one_of(reader, self.absent):
            return NoComing, reader
        before = self.state()
        self.absent = tuple(sorted(set(self.absent) - {reader}))
        return self.done(before)

    def extend(self):
        kind, found = extension(self.book(), self.rows, self.absent)
        if kind == "no":
            return Short, [works for works in sets_of_works(self.book())
                           if plain_is_short(self.book(), self.rows, self.absent, works)]
        assert plain_extends(self.book(), self.rows, self.absent, found)
        before = self.state()
        self.rows = found
        return self.done(before)

    def lay_anew(self):
        short = plain_short_sets(self.book(), self.absent)
        if short:
            return Short, short
        number, found, _ = relaid(self.book(), self.rows, self.absent)
        assert plain_is_good(self.book(), self.absent, found)
        assert plain_kept(self.rows, found, self.absent) == number
        before = self.state()
        self.rows = found
        return self.done(before, number)

    def set_demand(self, work, demand):
        if not is_one_of(work, range(len(self.demands))):
            return NoWork, work
        if not is_one_of(demand, range(7)):
            return BadDemand, demand
        before = self.state()
        self.demands[work] = demand
        return self.done(before)

    def set_limit(self, reader, limit):
        if not is_one_of(reader, range(len(self.readers))):
            return NoReader, reader
        if not is_one_of(limit, range(len(self.rows[reader]), 7)):
            return BadLimit, limit
        before = self.state()
        self.readers[reader] = (limit, self.readers[reader][1])
        return self.done(before)

    def add_work(self, demand, readers):
        if len(self.demands) == 6:
            return TooManyWorks, None
        if not is_one_of(demand, range(7)):
            return BadDemand, demand
        if not is_one_of(readers, subsets(range(len(self.readers)))):
            return NoReader, readers
        before = self.state()
        new = len(self.demands)
        self.demands.append(demand)
        for reader in readers:
            limit, may = self.readers[reader]
            self.readers[reader] = (limit, may + (new,))
        return self.done(before, new)

    def undo(self):
        if not self.before:
            return NothingDone, None
        demands, readers, self.rows, self.absent = self.before.pop()
        self.demands, self.readers = list(demands), list(readers)
        self.sift()
        return None, None


def drawn_arguments(random, model, name):
    """Return arguments for a change, most of which can be; some are of another kind or do not fit."""
    works, readers = len(model.demands), len(model.readers)
    odd = few_odd_values() + list(range(-1, 8)) + subsets(range(-1, readers + 1))
    here = [reader for reader in range(readers) if reader not in model.absent]
    fitting = {
        "drop_out": [random.choice([some for some in subsets(here) if 0 < len(some) < 3] + [()])],
        "come_back": [random.choice(model.absent + (0,))],
        "set_demand": [random.randrange(works), random.choice([0, 1, 1, 1, 2, 2, 3, 6])],
        "set_limit": [random.randrange(readers + 1) % max(readers, 1), random.choice([0, 1, 2, 2, 3, 3, 4, 5, 6])],
        "add_work": [random.choice([0, 1, 1, 1, 2, 2, 6]), drawn_subset(random, range(readers))],
        "extend": [], "lay_anew": [], "undo": [],
    }
    found = fitting[name]
    if name == "set_demand" and random.random() < 0.5:
        found[1] = model.demands[found[0]] + (1 if random.random() < 2 / (2 + model.demands[found[0]]) else -1)
    return [random.choice(odd) if random.random() < 0.1 else one for one in found]


def drawn_name(random, model, greatest):
    """Return the name of a change or of undo, drawn so that the house seldom stays where nothing is borne."""
    if greatest < 0 and random.random() < 0.5:
        return random.choice(["undo", "undo", "lay_anew", "set_limit", "come_back"])
    names = CHANGES + ["extend", "extend", "lay_anew", "set_demand", "set_limit", "undo"]
    if len(model.demands) < 4 and random.random() < 0.1:
        return "add_work"
    if len(model.absent) * 2 > len(model.readers):
        return random.choice(["come_back", "come_back", "undo", "set_limit", "extend"])
    return random.choice(names)


class DrawnHouseCase(unittest.TestCase):

    def setUp(self):
        self.seen = {}

    def note(self, what):
        self.seen[what] = self.seen.get(what, 0) + 1

    def assert_stands(self, house, model):
        book = house.book_now()
        found = (book.demands(), book.readers(), house.rows_now(), house.absent_now())
        self.assertEqual(repr(found), repr(model.state()))
        self.assertEqual(book, model.book())
        self.assertEqual(len(house), len(model.before))
        self.assertEqual(repr(house.kept()), repr(model.reasons))

    def assert_numbers(self, random, house, model):
        """Hold borne_now against plain counts, and why_not against the model, for some numbers from 0."""
        greatest = plain_greatest_borne(model.book(), model.rows, model.absent)
        self.assertEqual(house.borne_now(), greatest)
        everybody = greatest == len(present(model.book(), model.absent))
        for number in random.sample(range(8), 2) if random.random() < 0.7 else []:
            found = house.why_not(number)
            kept = [one for one in model.reasons if len(one[1]) <= number]
            if kept:
                self.assertEqual(repr(found), repr(kept[0]))
                self.note("kept")
            elif number <= greatest or everybody:
                self.assertIsNone(found)
                self.note("none")
            else:
                self.assertTrue(model.is_reason(number, found), found)
                model.reasons.append(found)
                self.note("new")
            self.assertEqual(repr(house.kept()), repr(model.reasons))
        return greatest

    def assert_same_answer(self, house, model, name, arguments):
        """Call both; return True if this was a change, and hold that they told the same."""
        before = repr(arguments)
        kind, told = getattr(model, name)(*arguments)
        if kind is None:
            self.assertEqual(repr(getattr(house, name)(*arguments)), repr(told))
        else:
            with self.assertRaises(ReadError) as caught:
                getattr(house, name)(*arguments)
            self.assertIs(type(caught.exception), kind)
            if kind is Short:
                self.assertIn(caught.exception.works, told)
            elif ATTRIBUTES[kind] is not None:
                self.assertIs(getattr(caught.exception, ATTRIBUTES[kind]), told)
        self.assertEqual(repr(arguments), before)
        self.note((name, kind))
        return kind is None

    def assert_point_sixteen(self, name, arguments, before, after, more, demand):
        """Hold what a change does to the greatest borne number, where so many readings came."""
        if name == "drop_out":
            self.assertLessEqual(before - len(arguments[0]), after)
            self.assertLessEqual(after, before)
        elif name == "come_back":
            self.assertLessEqual(before, after)
            self.assertLessEqual(after, before + 1)
        elif name == "extend":
            self.assertLessEqual(before - more, after)
            self.assertLessEqual(after, before)
            self.note(("less behind an extension", before > after))
        elif name == "set_demand" and min(demand, arguments[1]) > 0 and abs(demand - arguments[1]) == 1:
            self.assertLessEqual(abs(before - after), 1)
            self.note(("demand", after - before))

    def assert_none_fell(self, name, arguments, before, model, demand):
        """Hold the last words of point 17: behind these changes as many reasons are kept as ahead of them."""
        if name in ("drop_out", "extend", "add_work") or (name == "set_demand" and arguments[1] > demand):
            self.assertEqual(len(model.reasons), before)
        elif len(model.reasons) < before:
            self.note(("fell", name))

    def lead(self, random, house, model):
        """Draw one change for the house, hold its answer, and what it tells then."""
        name = drawn_name(random, model, house.borne_now())
        arguments = drawn_arguments(random, model, name)
        numbers = [house.borne_now(), sum(len(row) for row in model.rows), len(model.reasons)]
        demands = list(model.demands)
        if self.assert_same_answer(house, model, name, arguments):
            demand = demands[arguments[0]] if name == "set_demand" else 0
            more = sum(len(row) for row in model.rows) - numbers[1]
            self.assert_point_sixteen(name, arguments, numbers[0], house.borne_now(), more, demand)
            self.assert_none_fell(name, arguments, numbers[2], model, demand)
        self.assert_stands(house, model)
        self.assert_numbers(random, house, model)

    def drawn_start(self, random):
        if random.random() < 0.2:
            return drawn_book(random, random.randint(1, 6), random.randint(0, 6))
        if random.random() < 0.3:
            return drawn_good_book(random, random.randint(1, 5), random.randint(1, 6))[0]
        # Readers who can read much more than is demanded: several of them can drop out.
        works = random.randint(2, 5)
        readers = [(random.randint(1, 4), drawn_subset(random, range(works))) for _ in range(random.randint(4, 6))]
        return Book([random.choice([1, 1, 1, 2]) for _ in range(works)], readers)


class DrawnHouseTest(DrawnHouseCase):

    def test_drawn_changes(self):
        for seed in range(100):
            random = Random(seed)
            book = self.drawn_start(random)
            house, model = House(book), Model(book)
            self.assert_stands(house, model)
            for _ in range(40):
                self.lead(random, house, model)
            self.assert_all_undone(house, model)
        self.assertGreater(min(self.seen[name, None] for name in CHANGES + ["undo"]), 40)
        refused = [what for what in self.seen if type(what) is tuple and what[1] in ATTRIBUTES]
        wanted = [("drop_out", NoDropping), ("come_back", NoComing), ("set_demand", NoWork), ("set_demand", BadDemand)]
        wanted += [("set_limit", NoReader), ("set_limit", BadLimit), ("add_work", TooManyWorks)]
        wanted += [("add_work", BadDemand), ("add_work", NoReader), ("undo", NothingDone)]
        self.assertEqual(set(refused), set(wanted))
        for what in [("extend", Short), ("lay_anew", Short), "kept", "none", "new", ("demand", -1), ("demand", 1),
                     ("less behind an extension", True), ("fell", "undo"), ("fell", "come_back"),
                     ("fell", "set_demand"), ("fell", "set_limit"), ("fell", "lay_anew")]:
            self.assertGreater(self.seen.get(what, 0), 3, what)

    def assert_all_undone(self, house, model):
        """Undo all changes one by one, and find what was told ahead of each."""
        while len(house) > 0:
            before = model.before[-1]
            self.assert_same_answer(house, model, "undo", [])
            self.assertEqual(repr(model.state()), repr(before))
            self.assert_stands(house, model)
        self.assert_same_answer(house, model, "undo", [])
        self.assert_stands(house, model)

    def test_changes_one_by_one_and_back(self):
        for seed in range(100, 130):
            random = Random(seed)
            book = self.drawn_start(random)
            house, model = House(book), Model(book)
            told = []
            for _ in range(25):
                name = random.choice(CHANGES)
                now = house.book_now()
                state = [now, now.demands(), now.readers(), house.rows_now(), house.absent_now(), house.borne_now()]
                if self.assert_same_answer(house, model, name, drawn_arguments(random, model, name)):
                    told.append(state)
                self.assertEqual(len(house), len(told))
            while told:
                house.undo()
                now = house.book_now()
                state = [now, now.demands(), now.readers(), house.rows_now(), house.absent_now(), house.borne_now()]
                self.assertEqual(state, told.pop())
                self.assertEqual(state[0].demands(), state[1])

    def test_forks(self):
        forked = 0
        for seed in range(200, 230):
            random = Random(seed)
            book = self.drawn_start(random)
            pairs = [(House(book), Model(book))]
            for _ in range(50):
                house, model = random.choice(pairs)
                if random.random() < 0.1 and len(pairs) < 5:
                    pairs.append((house.fork(), model.copy()))
                    forked += 1
                else:
                    self.lead(random, house, model)
                for other, its_model in pairs:
                    self.assert_stands(other, its_model)
            for house, model in pairs:
                self.assert_all_undone(house, model)
                for other, its_model in pairs:
                    self.assert_stands(other, its_model)
        self.assertGreater(forked, 60)

    def test_equal_calls_give_equal_houses(self):
        for seed in range(300, 320):
            book = self.drawn_start(Random(seed))
            told = []
            for house in (House(book), House(Book(book.demands(), book.readers()))):
                random, model = Random(seed), Model(book)
                found = []
                for _ in range(25):
                    self.lead(random, house, model)
                    found.append(repr([house.rows_now(), house.kept(), house.absent_now(), len(house)]))
                told.append(found)
            self.assertEqual(told[0], told[1])
