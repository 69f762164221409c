"""The interface: names, arguments, where things are defined, and which methods a class has itself."""

import importlib
import inspect
import unittest

FUNCTIONS = {
    "words": {"is_word": "value", "is_date": "value", "is_integer": "value lowest highest"},
    "allowances": {"is_allowance": "value"},
    "lists": {"is_place": "value"},
    "making": {"most": "parts_list allowances date stock", "lack": "parts_list allowances date stock many",
               "dealing": "parts_list allowances date stock many", "is_thing": "parts_list allowances date value",
               "is_dealing": "parts_list allowances date stock many value",
               "is_lack": "parts_list allowances date stock many value"},
    "eithers": {"numbers_for": "eithers allowances date stock many", "most_of": "eithers allowances date stock",
                "lack_paper": "eithers allowances date stock many",
                "is_lack_paper": "eithers allowances date stock many value"},
    "needs": {"uses": "parts_list allowances date stock many", "surely_needed": "parts_list allowances date stock many",
              "least_stock": "parts_list allowances date stock many part",
              "told_back": "parts_list allowances date many ahead behind", "stock_behind": "ahead things"},
    "likeness": {"is_under": "one other", "are_alike": "one other", "greater_set": "one other",
                 "evidence": "one other", "alike_dates": "one its_allowances other other_allowances",
                 "first_unlike": "one its_allowances other other_allowances"},
    "given": {"least_given": "parts_list allowances date stock menu many",
              "gain_of": "parts_list allowances date stock menu"},
    "runs": {"is_event": "parts_list value", "played": "parts_list allowances rule events",
             "running": "parts_list allowances rule events"},
    "serving": {"could_serve": "parts_list allowances events served",
                "first_wrong": "parts_list allowances rule events"},
    "judging": {"uses_from": "parts_list allowances part date", "fault": "parts_list allowances rule",
                "faulty_events": "parts_list allowances rule", "is_right": "parts_list allowances rule",
                "right_rule": "parts_list allowances", "ring": "parts_list allowances"},
    "growing": {"made_by": "parts_list allowances rule date stock"},
    "safety": {"is_safe": "allowances part plain date wait", "safe_parts": "allowances plain date wait",
               "safe_spans": "allowances part plain wait"},
    "rulepapers": {"rule_paper": "parts_list allowances rule", "no_rule_paper": "parts_list allowances"},
    "rulechecker": {"lets_rule": "parts_list allowances rule value", "lets_ring": "parts_list allowances value"},
    "texts": {"write_list": "parts_list", "write_allowances": "allowances", "write_stock": "stock",
              "write_dealing": "things", "read_list": "text", "read_allowances": "text", "read_stock": "text"}}
CLASSES = {
    "allowances": {"Allowances": {"__init__": "rows through", "rows": "", "__call__": "plain date", "dates": "",
                                  "__len__": None, "__contains__": None, "__add__": None, "__or__": None,
                                  "__eq__": None}},
    "lists": {"PartsList": {"__init__": "places", "places": "", "words": "", "units": "", "__len__": None,
                            "__contains__": None, "__getitem__": None, "__add__": None, "__mul__": None,
                            "__rmul__": None, "__eq__": None, "__iter__": None},
              "Catalog": {"__init__": "lists", "words": "", "__len__": None, "__contains__": None,
                          "__getitem__": None, "opened": "word", "__iter__": None}},
    "stocks": {"Stock": {"__init__": "counts", "__getitem__": None, "__setitem__": None, "parts": "",
                         "__len__": None, "total": "parts", "copy": "", "__add__": None, "__sub__": None,
                         "__le__": None, "__eq__": None, "__iter__": None}},
    "demand": {"Demand": {"__init__": "parts_list allowances date", "__call__": "parts", "parts": "", "table": "",
                          "__eq__": None, "__le__": None}},
    "eithers": {"Eithers": {"__init__": "base eithers", "words": "", "__len__": None, "__eq__": None,
                            "combinations": "", "list_of": "choice"}},
    "rules": {"Rule": {"__init__": "kind orders", "order": "word", "words": "", "with_order": "word parts",
                       "rank": "word part", "__call__": "place one other", "__eq__": None}},
    "runs": {"Run": {"__init__": "parts_list allowances rule", "do": "event", "units": "", "__len__": None,
                     "copy": ""}},
    "store": {"Store": {"__init__": "parts_list allowances stock", "held": "", "put": "value", "come": "part number",
                        "allow": "row", "most": "date", "make": "date many", "undo": "", "__len__": None,
                        "attempt": "deed", "trying": ""}},
    "console": {"Console": {"__init__": "parts_list allowances", "say": "row"}}}


def module_of(name):
    """A module of the package."""
    return importlib.import_module("standinparts." + name)


class InterfaceTest(unittest.TestCase):
    def test_functions(self):
        for name, functions in FUNCTIONS.items():
            for function, names in functions.items():
                found = getattr(module_of(name), function)
                self.assertEqual(found.__module__, "standinparts." + name)
                self.assertEqual(list(inspect.signature(found).parameters), names.split())

    def test_classes(self):
        for name, classes in CLASSES.items():
            for class_name, methods in classes.items():
                found = getattr(module_of(name), class_name)
                self.assertEqual(found.__module__, "standinparts." + name)
                for method, names in methods.items():
                    self.assertIn(method, vars(found))
                    if names is not None:
                        told = list(inspect.signature(vars(found)[method]).parameters)
                        self.assertEqual(told, ["self", *names.split()])

    def test_properties_and_defaults(self):
        allowances = module_of("allowances").Allowances
        self.assertIsInstance(vars(allowances)["through"], property)
        parameters = inspect.signature(allowances).parameters
        self.assertEqual([parameters["rows"].default, parameters["through"].default], [(), False])
        self.assertEqual(parameters["through"].kind, inspect.Parameter.KEYWORD_ONLY)
        self.assertIsNone(inspect.signature(module_of("stocks").Stock).parameters["counts"].default)
        rule = module_of("rules").Rule
        self.assertIsNone(inspect.signature(rule).parameters["orders"].default)
        self.assertIsInstance(vars(rule)["plainly"], staticmethod)
        self.assertEqual(len(inspect.signature(rule.plainly).parameters), 0)
        self.assertTrue(inspect.isgeneratorfunction(module_of("runs").running))
        self.assertIsInstance(vars(module_of("store").Store)["made"], property)

    def test_no_other_defaults(self):
        allowed = {("allowances", "Allowances"), ("stocks", "Stock"), ("rules", "Rule")}
        for name in sorted({*FUNCTIONS, *CLASSES}):
            for made in [*FUNCTIONS.get(name, {}), *CLASSES.get(name, {})]:
                if (name, made) not in allowed:
                    for parameter in inspect.signature(getattr(module_of(name), made)).parameters.values():
                        self.assertIs(parameter.default, inspect.Parameter.empty)
                        self.assertEqual(parameter.kind, inspect.Parameter.POSITIONAL_OR_KEYWORD)

    def test_all_modules(self):
        told = {*FUNCTIONS, *CLASSES, "errors"}
        self.assertEqual(told, set(
            "errors words allowances lists stocks demand making eithers needs likeness given rules runs serving "
            "judging growing safety rulepapers rulechecker texts store console".split()))


if __name__ == "__main__":
    unittest.main()
