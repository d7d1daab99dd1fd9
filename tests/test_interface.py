"""The whole interface: each function, class and method by the names shown, what is handed in, and what is told."""

import inspect
import unittest

from eachworkread import books, droppings, errors, extending, further, goodrows, house, relaid, rows, steps
from eachworkread.books import Book
from eachworkread.house import House
from tests.helper import lists_in, told_of

DEMANDS = [2, 1, 1]
READERS = [(2, (0, 1)), (1, (0, 2)), (2, (0, 1, 2))]
GOOD = [(0, 1), (0,), (2,)]
CHAIN = [(0, 0, 1), (1, 1, None)]


def book():
    return Book(list(DEMANDS), list(READERS))


def narrow():
    return Book([1, 1, 0], [(1, (0, 1)), (1, (1, 2))])


def calls():
    """Return a list (function, arguments by their names in order) for all functions, made anew in each call."""
    nothing = {"book": narrow(), "kept": [(), ()], "rows": [(1,), ()], "absent": ()}
    plain = {"book": book(), "rows": list(GOOD), "absent": (1,)}
    return [
        (rows.is_rows, {"book": book(), "value": list(GOOD)}),
        (rows.is_good, {"book": book(), "rows": list(GOOD)}),
        (rows.is_enough, {"book": book(), "rows": list(GOOD)}),
        (rows.count, {"book": book(), "rows": list(GOOD), "reader": 2, "works": (0, 1)}),
        (rows.is_short, {**plain, "works": (0, 1)}),
        (rows.extends, {**plain, "value": [(0, 1), (), (0, 2)]}),
        (steps.step, {**nothing, "work": 0}),
        (steps.step, {**nothing, "kept": [(1,), ()], "work": 0}),
        (steps.is_chain, {**nothing, "work": 0, "value": list(CHAIN)}),
        (steps.is_closed, {**nothing, "value": (0, 1)}),
        (extending.extension, plain),
        (extending.extension, {"book": book(), "rows": [(), (), ()], "absent": (0, 2)}),
        (droppings.borne, plain),
        (droppings.reason, {**plain, "number": 1}),
        (droppings.is_reason, {**plain, "number": 1, "value": ((0, 1), (0,))}),
        (further.further_limits, plain),
        (further.further_limits, {"book": Book([1, 2], [(1, (0, 1)), (0, (1,))]), "rows": [(0,), ()], "absent": ()}),
        (goodrows.good_rows, {"book": book(), "absent": (1,)}),
        (goodrows.good_rows, {"book": book(), "absent": (0, 2)}),
        (goodrows.least_tight, {"book": book(), "absent": (1,), "work": 0}),
        (goodrows.pair, {"book": book(), "absent": (1,), "reader": 2, "work": 0}),
        (goodrows.readings, {"book": book(), "absent": (1,), "reader": 2}),
        (goodrows.good_with, {"book": book(), "absent": (1,), "reader": 2, "works": (0, 2)}),
        (relaid.relaid, plain),
        (relaid.bound, {**plain, "prices": [1, -2, 0]}),
    ]


METHODS = {
    Book: {"__init__": ["demands", "readers"], "demands": [], "readers": [], "__len__": [], "__eq__": ["other"]},
    House: {
        "__init__": ["book"], "book_now": [], "rows_now": [], "absent_now": [], "__len__": [],
        "drop_out": ["readers"], "come_back": ["reader"], "extend": [], "lay_anew": [],
        "set_demand": ["work", "demand"], "set_limit": ["reader", "limit"], "add_work": ["demand", "readers"],
        "undo": [], "borne_now": [], "why_not": ["number"], "kept": [], "fork": [],
    },
    errors.BadBook: {"__init__": ["place"]},
    errors.NoDropping: {"__init__": ["droppers"]},
    errors.NoComing: {"__init__": ["reader"]},
    errors.Short: {"__init__": ["works"]},
    errors.TooFew: {"__init__": ["work"]},
    errors.BadDemand: {"__init__": ["demand"]},
    errors.BadLimit: {"__init__": ["limit"]},
    errors.NoWork: {"__init__": ["work"]},
    errors.NoReader: {"__init__": ["reader"]},
    errors.TooManyWorks: {"__init__": []},
    errors.NothingDone: {"__init__": []},
}

MODULES = {
    rows: ["is_rows", "is_good", "is_enough", "count", "is_short", "extends"],
    steps: ["step", "is_chain", "is_closed"],
    extending: ["extension"],
    droppings: ["borne", "reason", "is_reason"],
    further: ["further_limits"],
    goodrows: ["good_rows", "least_tight", "pair", "readings", "good_with"],
    relaid: ["relaid", "bound"],
    books: ["Book"],
    house: ["House"],
    errors: [
        "ReadError", "BadBook", "NoDropping", "NoComing", "Short", "TooFew", "BadDemand", "BadLimit", "NoWork",
        "NoReader", "TooManyWorks", "NothingDone",
    ],
}


class FunctionsTest(unittest.TestCase):

    def test_each_function_of_the_interface_is_called_here(self):
        named = {name for module, names in MODULES.items() for name in names if not name[0].isupper()}
        self.assertEqual({function.__name__ for function, _ in calls()}, named)

    def test_everything_is_defined_in_its_own_module(self):
        for module, names in MODULES.items():
            for name in names:
                self.assertEqual(getattr(module, name).__module__, module.__name__)

    def test_names_and_order_of_the_arguments(self):
        for function, arguments in calls():
            found = list(inspect.signature(function).parameters.values())
            self.assertEqual([one.name for one in found], list(arguments), function)
            self.assertEqual({one.kind for one in found}, {inspect.Parameter.POSITIONAL_OR_KEYWORD})

    def test_by_position_and_by_name_and_again(self):
        for (function, arguments), (_, others) in zip(calls(), calls()):
            before = told_of(*arguments.values())
            found = function(*arguments.values())
            self.assertEqual(told_of(*arguments.values()), before, function)
            by_name = function(**dict(reversed(list(arguments.items()))))
            self.assertEqual([repr(by_name), repr(function(**others))], [repr(found)] * 2, function)
            self.assertEqual(told_of(*arguments.values()), before, function)

    def test_told_lists_are_new(self):
        for function, arguments in calls():
            handed_in = [value for value in arguments.values() if type(value) is list]
            first, second = function(**arguments), function(**arguments)
            every = handed_in + lists_in(first) + lists_in(second)
            self.assertEqual(len({id(one) for one in every}), len(every), function)
            before = repr(second)
            for one in lists_in(first):
                one.clear()
            self.assertEqual([repr(second), repr(function(**arguments))], [before] * 2, function)


class ClassesTest(unittest.TestCase):

    def test_methods_stand_in_the_classes_with_the_names_shown(self):
        for kind, methods in METHODS.items():
            for name, arguments in methods.items():
                self.assertIn(name, vars(kind), kind)
                found = list(inspect.signature(vars(kind)[name]).parameters)
                self.assertEqual(found[1:], arguments, (kind, name))

    def test_each_class_takes_its_arguments_by_name(self):
        values = {"demands": [1], "readers": [], "book": Book([1], [])}
        for kind, methods in METHODS.items():
            arguments = {name: values.get(name, (0, 1)) for name in methods["__init__"]}
            made, again = kind(**arguments), kind(*arguments.values())
            self.assertEqual([type(made), type(again)], [kind] * 2)
            if issubclass(kind, errors.ReadError):
                self.assertEqual([vars(made), vars(again)], [arguments] * 2)

    def test_methods_of_a_house_by_name(self):
        one, two = House(book=book()), House(book())
        arguments = [("drop_out", {"readers": (1, 2)}), ("come_back", {"reader": 2}), ("extend", {})]
        arguments += [("set_demand", {"work": 0, "demand": 3}), ("set_limit", {"reader": 1, "limit": 4})]
        arguments += [("add_work", {"demand": 1, "readers": (0, 1)}), ("why_not", {"number": 0}), ("undo", {})]
        arguments += [("lay_anew", {}), ("borne_now", {}), ("kept", {}), ("rows_now", {}), ("absent_now", {})]
        one.set_limit(2, 3)
        two.set_limit(2, 3)
        for name, some in arguments:
            by_name, by_position = self.told(one, name, [], some), self.told(two, name, list(some.values()), {})
            self.assertEqual(by_name, by_position, name)
            self.assertEqual([one.book_now(), one.rows_now()], [two.book_now(), two.rows_now()])

    def told(self, one, name, by_position, by_name):
        try:
            return repr(getattr(one, name)(*by_position, **by_name))
        except errors.Short as error:
            return repr(error.works)

    def test_a_house_leaves_its_book(self):
        one = book()
        home = House(one)
        for call in (home.extend, lambda: home.drop_out((0,)), lambda: home.set_demand(0, 0),
                     lambda: home.set_limit(0, 6), lambda: home.add_work(6, (0, 1, 2)), home.undo):
            call()
            self.assertEqual(told_of(one), told_of(book()))
