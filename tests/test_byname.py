"""Arguments by the names that the interface gives, in another order, as by position: for all of the interface."""

import unittest
from itertools import permutations

from standinparts.allowances import Allowances, is_allowance
from standinparts.console import Console
from standinparts.demand import Demand
from standinparts.eithers import Eithers, is_lack_paper, lack_paper, most_of, numbers_for
from standinparts.given import gain_of, least_given
from standinparts.growing import made_by
from standinparts.judging import fault, faulty_events, is_right, right_rule, ring, uses_from
from standinparts.likeness import alike_dates, are_alike, evidence, first_unlike, greater_set, is_under
from standinparts.lists import Catalog, PartsList, is_place
from standinparts.making import dealing, is_dealing, is_lack, is_thing, lack, most
from standinparts.needs import least_stock, stock_behind, surely_needed, told_back, uses
from standinparts.rulechecker import lets_ring, lets_rule
from standinparts.rulepapers import no_rule_paper, rule_paper
from standinparts.rules import Rule
from standinparts.runs import Run, is_event, played, running
from standinparts.safety import is_safe, safe_parts, safe_spans
from standinparts.serving import could_serve, first_wrong
from standinparts.stocks import Stock
from standinparts.store import Store
from standinparts.texts import (read_allowances, read_list, read_stock, write_allowances, write_dealing, write_list,
                                write_stock)
from standinparts.words import is_date, is_integer, is_word
from tests.test_interface import CLASSES, FUNCTIONS

PLACES = [("x", "b", 2, 1), ("y", "a", 1, None)]
PARTS, OTHER = PartsList(PLACES), PartsList([("z", "b", 2, None)])
BARE = PartsList([("x", "b", 1, None), ("y", "a", 1, None)])
ROWS = [("a", "b", 0, None)]
BOOK, NONE = Allowances(ROWS), Allowances()
STOCK = Stock({"a": 5, "b": 3})
GREEDY = Rule("row", {"x": ("a", "b")})
EVENTS = [("come", "a", 0), ("come", "b", 0), ("ask", "x", 0), ("ask", "y", 0)]
THING = (("x", ("a", "b")), ("y", ("a",)))
CHOICES = Eithers(PARTS, [("e", OTHER, PartsList([("z", "c", 1, None)]))])
RINGED, RING_PARTS = Allowances([("b", "a", 0, 3)]), PartsList([("x", "a", 1, None), ("y", "b", 1, None)])
BASIC = {"parts_list": PARTS, "allowances": BOOK, "date": 0, "stock": STOCK, "many": 2}
RULED = {"parts_list": BARE, "allowances": BOOK, "rule": GREEDY}
DEMANDS = {"one": Demand(PARTS, BOOK, 0), "other": Demand(OTHER, NONE, 0)}
LISTS = {"one": PARTS, "its_allowances": BOOK, "other": OTHER, "other_allowances": NONE}


def given(names, **more):
    """Some of what most functions are given, and more."""
    return {name: BASIC[name] for name in names.split()} | more


CALLS = [
    (is_word, {"value": "bolt"}), (is_date, {"value": 3}), (is_integer, {"value": 3, "lowest": 3, "highest": 4}),
    (is_allowance, {"value": ROWS[0]}), (is_place, {"value": PLACES[0]}),
    (most, given("parts_list allowances date stock")), (lack, given("parts_list allowances date stock many")),
    (dealing, given("parts_list allowances date stock many")),
    (is_thing, given("parts_list allowances date", value=THING)),
    (is_dealing, given("parts_list allowances date stock many", value=[THING, THING])),
    (is_lack, given("parts_list allowances date stock", many=4, value=("b",))),
    (numbers_for, given("allowances date stock", eithers=CHOICES, many=1)),
    (most_of, given("allowances date stock", eithers=CHOICES)),
    (lack_paper, given("allowances date stock", eithers=CHOICES, many=4)),
    (is_lack_paper, given("allowances date stock", eithers=CHOICES, many=4,
                          value=lack_paper(CHOICES, BOOK, 0, STOCK, 4))),
    (uses, given("parts_list allowances date stock many")),
    (surely_needed, given("parts_list allowances date stock many")),
    (least_stock, given("parts_list allowances date stock many", part="a")),
    (told_back, {"parts_list": PARTS, "allowances": BOOK, "date": 0, "many": 2, "ahead": STOCK,
                 "behind": Stock({"a": 1, "b": 1})}),
    (stock_behind, {"ahead": STOCK, "things": [THING]}),
    (is_under, DEMANDS), (are_alike, DEMANDS), (greater_set, DEMANDS), (evidence, DEMANDS),
    (alike_dates, LISTS), (first_unlike, LISTS),
    (least_given, given("parts_list date stock many", allowances=NONE, menu=ROWS)),
    (gain_of, given("parts_list date stock", allowances=NONE, menu=ROWS)),
    (is_event, {"parts_list": BARE, "value": EVENTS[2]}), (played, RULED | {"events": EVENTS}),
    (running, RULED | {"events": EVENTS}),
    (could_serve, {"parts_list": BARE, "allowances": BOOK, "events": EVENTS, "served": [2, 3]}),
    (first_wrong, RULED | {"events": EVENTS}),
    (uses_from, {"parts_list": BARE, "allowances": BOOK, "part": "a", "date": 0}), (fault, RULED),
    (faulty_events, RULED), (is_right, RULED), (right_rule, {"parts_list": BARE, "allowances": BOOK}),
    (ring, {"parts_list": RING_PARTS, "allowances": RINGED}), (made_by, RULED | {"date": 0, "stock": STOCK}),
    (is_safe, {"allowances": BOOK, "part": "a", "plain": "b", "date": 0, "wait": 3}),
    (safe_parts, {"allowances": BOOK, "plain": "b", "date": 0, "wait": 3}),
    (safe_spans, {"allowances": BOOK, "part": "a", "plain": "b", "wait": 3}), (rule_paper, RULED),
    (no_rule_paper, {"parts_list": RING_PARTS, "allowances": RINGED}),
    (lets_rule, RULED | {"value": rule_paper(BARE, BOOK, GREEDY)}),
    (lets_ring, {"parts_list": RING_PARTS, "allowances": RINGED, "value": no_rule_paper(RING_PARTS, RINGED)}),
    (write_list, {"parts_list": PARTS}), (write_allowances, {"allowances": BOOK}), (write_stock, {"stock": STOCK}),
    (write_dealing, {"things": [THING]}), (read_list, {"text": "x b 1"}), (read_allowances, {"text": "through"}),
    (read_stock, {"text": "a 3"})]

MADE = [
    (Allowances, {"rows": ROWS}), (PartsList, {"places": PLACES}), (Catalog, {"lists": {"p": PARTS}}),
    (Stock, {"counts": {"a": 3}}), (Demand, {"parts_list": PARTS, "allowances": BOOK, "date": 0}),
    (Eithers, {"base": PARTS, "eithers": [("e", OTHER, OTHER)]}), (Rule, {"kind": "row", "orders": {"x": ("a", "b")}}),
    (Run, RULED), (Store, given("parts_list allowances stock")), (Console, given("parts_list allowances"))]

# A maker of an object, the name of a method and what it is given; the method must tell something.
METHODS = [
    (lambda: BOOK, "__call__", {"plain": "b", "date": 0}), (lambda: Catalog({"p": PARTS}), "opened", {"word": "p"}),
    (lambda: STOCK, "total", {"parts": ["a", "b"]}),
    (lambda: Demand(PARTS, BOOK, 0), "__call__", {"parts": ("a", "b")}),
    (lambda: CHOICES, "list_of", {"choice": (1,)}), (lambda: GREEDY, "order", {"word": "x"}),
    (lambda: GREEDY, "with_order", {"word": "x", "parts": ("b",)}),
    (lambda: GREEDY, "rank", {"word": "x", "part": "b"}),
    (lambda: GREEDY, "__call__", {"place": PLACES[0], "one": ("a", 3), "other": ("b", 0)}),
    (lambda: Run(BARE, BOOK, GREEDY), "do", {"event": EVENTS[0]})]

# Steps of a store: a name, what it is given.
STEPS = [("put", {"value": Stock({"a": 9, "b": 9})}), ("come", {"part": "a", "number": 3}),
         ("allow", {"row": ("c", "b", 0, None)}), ("most", {"date": 0}), ("make", {"date": 0, "many": 1}),
         ("attempt", {"deed": len})]


def orders_of(arguments):
    """The arguments as dicts, in all orders of at most five names, otherwise turned about."""
    names = list(arguments)
    ways = permutations(names) if len(names) < 6 else [names, names[::-1], names[2:] + names[:2]]
    return [{name: arguments[name] for name in way} for way in ways]


def by_position(call, names, arguments):
    """What a call tells with all arguments by position."""
    return call(*[arguments[name] for name in names.split()])


def shown(value):
    """What can be compared of a value."""
    if isinstance(value, Run):
        return value.units(), len(value)
    if isinstance(value, Store):
        return value.held(), value.made, value.most(0)
    if isinstance(value, Console):
        return [value.say(row) for row in ("stock", "list", "allowances")]
    if isinstance(value, Catalog):
        return [(word, value[word]) for word in value.words()]
    return list(value) if hasattr(value, "__next__") else value


class ByNameTest(unittest.TestCase):
    def test_functions(self):
        for call, arguments in CALLS:
            names = FUNCTIONS[call.__module__.split(".")[1]][call.__name__]
            self.assertEqual(sorted(names.split()), sorted(arguments), call.__name__)
            told = shown(by_position(call, names, arguments))
            self.assertIsNotNone(told if call not in (lack, first_unlike) else 0, call.__name__)
            for way in orders_of(arguments):
                self.assertEqual(shown(call(**way)), told, call.__name__)
        self.assertEqual({(call.__module__, call.__name__) for call, _ in CALLS},
                         {("standinparts." + name, call) for name in FUNCTIONS for call in FUNCTIONS[name]})

    def test_classes(self):
        for made, arguments in MADE:
            names = CLASSES[made.__module__.split(".")[1]][made.__name__]["__init__"].replace(" through", "")
            told = shown(by_position(made, names, arguments))
            for way in orders_of(arguments):
                self.assertEqual(shown(made(**way)), told, made.__name__)
        self.assertEqual({made.__name__ for made, _ in MADE}, {made for name in CLASSES for made in CLASSES[name]})
        self.assertEqual(Allowances(through=True, rows=ROWS), Allowances(ROWS, through=True))
        with self.assertRaises(TypeError):
            Allowances(ROWS, True)

    def test_methods(self):
        for maker, method, arguments in METHODS:
            names = CLASSES[type(maker()).__module__.split(".")[1]][type(maker()).__name__][method]
            told = by_position(getattr(maker(), method), names, arguments)
            self.assertIsNotNone(told)
            for way in orders_of(arguments):
                self.assertEqual(getattr(maker(), method)(**way), told, method)

    def test_methods_of_stores_and_consoles(self):
        for method, arguments in STEPS:
            one = Store(PARTS, BOOK, STOCK)
            told = by_position(getattr(one, method), CLASSES["store"]["Store"][method], arguments)
            for way in orders_of(arguments):
                other = Store(PARTS, BOOK, STOCK)
                self.assertEqual(getattr(other, method)(**way), told)
                self.assertEqual((shown(other), len(other)), (shown(one), len(one)))
        console = Console(BARE, BOOK)
        self.assertEqual([console.say("come a 3"), console.say(row="come b 4"), console.say(row="stock")],
                         ["ok", "ok", "a 3; b 4"])

    def test_all_methods_with_arguments(self):
        told = {(type(maker()).__name__, method) for maker, method, _ in METHODS}
        told |= {("Store", method) for method, _ in STEPS} | {("Console", "say")}
        wanted = {(made, method) for name in CLASSES for made, methods in CLASSES[name].items()
                  for method, names in methods.items() if names and method != "__init__"}
        self.assertEqual(told, wanted)


if __name__ == "__main__":
    unittest.main()
