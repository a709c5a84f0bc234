"""Symbols: points 06.1 to 06.3."""

import unittest

from saggar.errors import NoSymbol, SaggarError
from saggar.symbols import LONGEST, Symbols


class Table(unittest.TestCase):
    def refuses(self, table, text, limit):
        before = table.texts()
        with self.assertRaises(NoSymbol) as caught:
            table.number(text)
        self.assertEqual(caught.exception.limit, limit)
        self.assertIsInstance(caught.exception, SaggarError)
        self.assertEqual([table.texts(), table.count(), table.knows(text)], [before, len(before), False])

    def test_an_empty_table(self):
        self.assertEqual(LONGEST, 4000)
        table = Symbols()
        self.assertEqual([table.most, table.count(), table.texts()], [100000, 0, []])
        self.assertEqual(Symbols(7).most, 7)
        self.assertEqual(Symbols(most=0).most, 0)

    def test_numbers_in_the_order_of_adding(self):
        table = Symbols()
        texts = ["b", "", "a", "at:put:", "two words", "line\nline", "B"]
        self.assertEqual([table.number(text) for text in texts], list(range(7)))
        self.assertEqual(table.texts(), texts)
        self.assertEqual([table.text(k) for k in range(7)], texts)
        self.assertEqual(table.count(), 7)

    def test_a_text_keeps_its_number(self):
        table = Symbols()
        self.assertEqual([table.number(text) for text in "abacab"], [0, 1, 0, 2, 0, 1])
        self.assertEqual(table.count(), 3)

    def test_knowing_adds_nothing(self):
        table = Symbols()
        table.number("a")
        self.assertIs(table.knows("a"), True)
        self.assertIs(table.knows("b"), False)
        self.assertEqual(table.texts(), ["a"])

    def test_a_full_table(self):
        table = Symbols(2)
        table.number("a")
        table.number("b")
        self.refuses(table, "c", 2)
        self.assertEqual([table.number("b"), table.number("a")], [1, 0])

    def test_a_table_for_no_texts(self):
        self.refuses(Symbols(0), "", 0)
        self.refuses(Symbols(0), "x" * 4001, 4000)

    def test_long_texts(self):
        table = Symbols()
        self.assertEqual(table.number("x" * 4000), 0)
        self.refuses(table, "x" * 4001, 4000)
        self.assertEqual(table.number("x" * 4000), 0)

    def test_a_long_text_comes_before_a_full_table(self):
        table = Symbols(1)
        table.number("a")
        self.refuses(table, "x" * 4001, 4000)
        self.refuses(table, "x" * 4000, 1)
        self.assertEqual(table.number("a"), 0)

    def test_cutting(self):
        table = Symbols(3)
        for text in "abc":
            table.number(text)
        self.assertIsNone(table.cut(3))
        table.cut(50)
        self.assertEqual(table.texts(), ["a", "b", "c"])
        table.cut(1)
        self.assertEqual([table.texts(), table.count()], [["a"], 1])
        self.assertEqual([table.knows(text) for text in "abc"], [True, False, False])
        self.assertEqual([table.number("c"), table.number("b"), table.text(1)], [1, 2, "c"])
        self.refuses(table, "d", 3)
        table.cut(0)
        self.assertEqual([table.texts(), table.knows("a"), table.number("b")], [[], False, 0])

    def test_returned_lists_are_new(self):
        table = Symbols()
        table.number("a")
        table.texts().append("b")
        self.assertEqual([table.texts(), table.knows("b"), table.count()], [["a"], False, 1])
        texts = table.texts()
        table.number("c")
        self.assertEqual(texts, ["a"])


if __name__ == "__main__":
    unittest.main()
