"""The examples of the document as they stand there, and what its point 8 tells in words."""

import doctest
import unittest

from standinparts.allowances import Allowances
from standinparts.demand import Demand
from standinparts.lists import PartsList
from standinparts.making import dealing, lack, most
from standinparts.stocks import Stock

EXAMPLES = {
    "allowances": r"""
>>> from standinparts.allowances import Allowances
>>> book = Allowances([('screw', 'bolt', 5, None), ('nail', 'screw', 0, 7)], through=True)
>>> [book('bolt', 4), book('bolt', 6), book('bolt', 8), book.dates()]
[('bolt',), ('bolt', 'nail', 'screw'), ('bolt', 'screw'), [0, 5, 8]]
""",
    "lists": r"""
>>> from standinparts.lists import Catalog, PartsList
>>> wheel = PartsList([('x', 'rim', 1, None), ('y', 'spoke', 6, 2)])
>>> Catalog({'cart': PartsList([('w', 'wheel', 2, None)]), 'wheel': wheel}).opened('cart').places()
[('a', 'rim', 2, None), ('b', 'spoke', 12, 4)]
""",
    "making": r"""
>>> from standinparts.allowances import Allowances
>>> from standinparts.demand import Demand
>>> from standinparts.lists import PartsList
>>> from standinparts.making import lack, most
>>> from standinparts.stocks import Stock
>>> parts, book = PartsList([('x', 'bolt', 2, 1)]), Allowances([('screw', 'bolt', 0, None)])
>>> [Demand(parts, book, 0).table(), most(parts, book, 0, Stock({'bolt': 3, 'screw': 1}))]
[{('bolt',): 1, ('bolt', 'screw'): 2}, 2]
>>> lack(parts, book, 0, Stock({'bolt': 3, 'screw': 1}), 3)
('bolt', 'screw')
""",
    "needs": r"""
>>> from standinparts.allowances import Allowances
>>> from standinparts.lists import PartsList
>>> from standinparts.needs import uses
>>> from standinparts.stocks import Stock
>>> parts, book = PartsList([('x', 'bolt', 2, 1)]), Allowances([('screw', 'bolt', 0, None)])
>>> uses(parts, book, 0, Stock({'bolt': 3, 'screw': 1}), 2)
{'bolt': (3, 3), 'screw': (1, 1)}
""",
    "judging": r"""
>>> from standinparts.allowances import Allowances
>>> from standinparts.judging import is_right, right_rule
>>> from standinparts.lists import PartsList
>>> from standinparts.rules import Rule
>>> parts, book = PartsList([('x', 'b', 1, None), ('y', 'a', 1, None)]), Allowances([('a', 'b', 0, None)])
>>> [is_right(parts, book, Rule('row', {'x': ('a', 'b')})), is_right(parts, book, Rule('plain'))]
[False, True]
>>> right_rule(parts, book).order('x')
('b', 'a')
""",
    "safety": r"""
>>> from standinparts.allowances import Allowances
>>> from standinparts.safety import safe_spans
>>> safe_spans(Allowances([('a', 'b', 0, 10)]), 'a', 'b', 3)
[(0, 7)]
""",
    "texts": r"""
>>> from standinparts.lists import PartsList
>>> from standinparts.texts import write_list
>>> write_list(PartsList([('x', 'bolt', 2, 1), ('y', 'nut', 2, None)]))
'x bolt 2 share 1; y nut 2'
"""}


class DocumentTest(unittest.TestCase):
    def run_example(self, name, text):
        """Runs an example, and fails if it tells something else."""
        test = doctest.DocTestParser().get_doctest(text, {}, name, name, 0)
        self.assertGreater(len(test.examples), 0)
        self.assertEqual(doctest.DocTestRunner(verbose=False).run(test).failed, 0, name)

    def test_examples(self):
        for name, text in EXAMPLES.items():
            self.run_example(name, text)

    def test_point_eight(self):
        parts, book = PartsList([("x", "bolt", 2, 1)]), Allowances([("screw", "bolt", 0, None)])
        demand, stock = Demand(parts, book, 0), Stock({"bolt": 3, "screw": 1})
        self.assertEqual([demand(["bolt"]), demand(["screw"]), demand(["bolt", "screw"])], [1, 0, 2])
        self.assertEqual(most(parts, book, 0, stock), 2)
        things = dealing(parts, book, 0, stock, 2)
        self.assertEqual(sorted(units for ((_, units),) in things), [("bolt", "bolt"), ("bolt", "screw")])
        self.assertIsNone(dealing(parts, book, 0, stock, 3))
        self.assertEqual(lack(parts, book, 0, stock, 3), ("bolt", "screw"))


if __name__ == "__main__":
    unittest.main()
