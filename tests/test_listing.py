"""Listings: points 12.1 to 12.4."""

import copy
import random
import unittest

from saggar.coding import Draft, compile_method
from saggar.errors import Malformed
from saggar.listing import instruction_of, list_draft, number_of, read_listing
from tests.growing import NAMES, grow_method

NUMBERS = {
    "local": 0, "set_local": 1, "outer": 2, "set_outer": 3, "field": 4, "set_field": 5, "literal": 6, "global": 7,
    "set_global": 8, "self": 9, "nil": 10, "true": 11, "false": 12, "pop": 13, "dup": 14, "send": 15, "super_send": 16,
    "block": 17, "jump": 18, "jump_false": 19, "return": 20, "leave": 21,
}
BARE = ["self", "nil", "true", "false", "pop", "dup", "return", "leave"]
HEAD = "method f 0 0 1"


class Instructions(unittest.TestCase):
    def test_number_of(self):
        for op, number in NUMBERS.items():
            for arg in (0, 1, 65535):
                self.assertEqual(number_of(op, arg), number * 65536 + arg)

    def test_instruction_of(self):
        for op, number in NUMBERS.items():
            for arg in (0, 1, 65535):
                self.assertEqual(instruction_of(number * 65536 + arg), (op, arg))
        self.assertEqual(instruction_of(22 * 65536 - 1), ("leave", 65535))


class Writing(unittest.TestCase):
    def lines(self, code=(), literals=(), head=("f", 0, 0, 1)):
        return list_draft(Draft(*head, code, literals))

    def test_heads(self):
        self.assertEqual(self.lines(), [HEAD, "code"])
        self.assertEqual(self.lines(head=("at:put:", 2, 30, 10000)), ["method at:put: 2 30 10000", "code"])
        self.assertEqual(self.lines(head=("\\", -1, 0, 999999999)), ["method \\ -1 0 999999999", "code"])

    def test_literals(self):
        literals = [("int", 0), ("int", -268435456), ("symbol", "a b"), ("global", "Home"), ("selector", "at:put:"),
                    ("block", 1, 22, 333, 4444)]
        lines = ["int 0", "int -268435456", "symbol a b", "global Home", "selector at:put:", "block 1 22 333 4444"]
        self.assertEqual(self.lines(literals=literals), [HEAD] + lines + ["code"])

    def test_texts(self):
        for kind in ("symbol", "selector"):
            for text, told in [("", ""), (" ", " "), ("  a  ", "  a  "), ("a\nb", "a\\nb"), ("\\", "\\\\"), ("\\n", "\\\\n"),
                               ("\n\\\n", "\\n\\\\\\n"), ("code", "code")]:
                self.assertEqual(self.lines(literals=[(kind, text)]), [HEAD, kind + " " + told, "code"])

    def test_instructions(self):
        for op in NUMBERS:
            if op in BARE:
                self.assertEqual(self.lines([(op, 0)]), [HEAD, "code", op])
            else:
                self.assertEqual(self.lines([(op, 0), (op, 65535)]), [HEAD, "code", op + " 0", op + " 65535"])


class Reading(unittest.TestCase):
    def reads(self, lines, code=(), literals=(), head=("f", 0, 0, 1)):
        self.assertEqual(read_listing(lines), Draft(*head, code, literals), lines)

    def malformed(self, lines, at):
        with self.assertRaises(Malformed) as caught:
            read_listing(lines)
        self.assertEqual(caught.exception.at, at, lines)

    def test_heads(self):
        self.reads([HEAD, "code"])
        self.reads(["method at:put: 2 30 10000", "code"], head=("at:put:", 2, 30, 10000))
        self.reads(["method \\ -1 -999999999 999999999", "code"], head=("\\", -1, -999999999, 999999999))
        self.reads(["method method 1 2 3", "code"], head=("method", 1, 2, 3))
        for head in ["", "code", "method", "method f", "method f 0", "method f 0 0", "method f 0 0 1 1", "method  0 0 1",
                     "method f  0 0 1", " method f 0 0 1", "method f 0 0 1 ", "Method f 0 0 1", "methods f 0 0 1",
                     "method f 00 0 1", "method f 0 01 1", "method f 0 0 -0", "method f 0 0 +1", "method f a 0 1",
                     "method f 0 1000000000 1", "method f 0 0 -1000000000", "method f 0 0 --1", "method f 0 0 -",
                     "method f g 0 0 1", "int 3", "self", "local 0"]:
            self.malformed([head, "code"], 0)
            self.malformed([head, "nothing"], 0)

    def test_only_the_first_line_is_a_head(self):
        self.malformed([HEAD, HEAD, "code"], 1)
        self.malformed([HEAD, "int 3", HEAD, "code"], 2)
        self.malformed([HEAD, "code", HEAD], 2)

    def test_no_lines(self):
        self.malformed([], 0)

    def test_the_line_code(self):
        self.malformed([HEAD], 1)
        self.malformed([HEAD, "int 3"], 2)
        self.malformed([HEAD, "int 3", "symbol code"], 3)
        self.malformed([HEAD, "code", "code"], 2)
        self.malformed([HEAD, "code", "self", "code", "self"], 3)
        for line in ["code ", " code", "Code", "code 0", ""]:
            self.malformed([HEAD, line], 1)
            self.malformed([HEAD, line, "code"], 1)

    def test_literals(self):
        for line, literal in [("int 0", ("int", 0)), ("int -1", ("int", -1)), ("int 999999999", ("int", 999999999)),
                              ("int -999999999", ("int", -999999999)), ("int 7", ("int", 7)), ("global Home", ("global", "Home")),
                              ("global 3", ("global", "3")), ("global \\", ("global", "\\")), ("global \\n", ("global", "\\n")),
                              ("block 0 1 22 333", ("block", 0, 1, 22, 333)), ("block -1 0 0 0", ("block", -1, 0, 0, 0))]:
            self.reads([HEAD, line, "code"], literals=[literal])
            self.reads([HEAD, "int 1", line, "int 2", "code"], literals=[("int", 1), literal, ("int", 2)])

    def test_wrong_literals(self):
        for line in ["int", "int ", "int 1 ", "int  1", "int 1 2", "int 01", "int 00", "int -0", "int --1", "int +1", "int 1-",
                     "int 1000000000", "int -1000000000", "int a", "int 1a", "Int 1", " int 1", "global", "global ", "global A B",
                     "global  A", "global A ", "block", "block 0 0 0", "block 0 0 0 0 0", "block 0 0  0 0", "block 0 0 0 0 ",
                     "block 0 0 0 x", "block 0 0 0 00", "symbol", "selector", "symbols a", "text a", "", " ", "self", "local 0",
                     "send 0", "jump 0", "block 0", "literal 0", "super_send 0", "return"]:
            self.malformed([HEAD, line, "code"], 1)
            self.malformed([HEAD, "int 1", line, "none", "code"], 2)

    def test_texts(self):
        for kind in ("symbol", "selector"):
            for told, text in [("", ""), (" ", " "), ("  a  ", "  a  "), ("a\\nb", "a\nb"), ("\\\\", "\\"), ("\\\\n", "\\n"),
                               ("\\n\\\\\\n", "\n\\\n"), ("a\\\\", "a\\"), ("code", "code"), ("n", "n")]:
                self.reads([HEAD, kind + " " + told, "code"], literals=[(kind, text)])
            for told in ["\\", "a\\", "\\a", "\\ n", "\\\\\\", "\\N", "\\n\\", "\\0"]:
                self.malformed([HEAD, kind + " " + told, "code"], 1)

    def test_instructions(self):
        for op in NUMBERS:
            if op in BARE:
                self.reads([HEAD, "code", op], [(op, 0)])
                wrong = [op + " 0", op + " ", op + " 1", " " + op]
            else:
                self.reads([HEAD, "code", op + " 0", op + " 7", op + " 65535"], [(op, 0), (op, 7), (op, 65535)])
                wrong = [op, op + " ", op + " 65536", op + " -1", op + " -0", op + " 00", op + " 01", op + "  1", op + " 1 ",
                         op + " 1 1", op + " a", " " + op + " 1", op.upper() + " 1", op + " 1000000000"]
            for line in wrong:
                self.malformed([HEAD, "code", line], 2)
                self.malformed([HEAD, "int 1", "code", "self", line, "none"], 4)

    def test_lines_that_are_no_instructions(self):
        for line in ["", " ", "none", "none 0", "int 3", "symbol a", "selector a", "global Home", "block 0 0 0 1", "code"]:
            self.malformed([HEAD, "code", line], 2)

    def test_global_is_told_by_its_place(self):
        self.reads([HEAD, "global 3", "code", "global 3"], [("global", 3)], [("global", "3")])

    def test_the_first_wrong_line_is_told(self):
        self.malformed([HEAD, "int 3", "local 3", "none"], 2)
        self.malformed([HEAD, "none", "code", "none"], 1)
        self.malformed(["none", "none"], 0)
        self.malformed([HEAD, "code", "none", "code"], 2)


class BackAndForth(unittest.TestCase):
    def again(self, draft):
        lines = list_draft(draft)
        for line in lines:
            self.assertNotIn("\n", line)
        self.assertEqual(read_listing(lines), draft)
        self.assertEqual(list_draft(read_listing(lines)), lines)

    def test_compiled_ones(self):
        for seed in range(300):
            self.again(compile_method(grow_method(random.Random(seed)), NAMES[:3], NAMES[3:]))

    def test_others(self):
        chance = random.Random(5)
        for _ in range(1000):
            self.again(random_draft(chance))

    def test_arguments_are_not_modified(self):
        chance = random.Random(6)
        draft = random_draft(chance)
        before = copy.deepcopy(draft)
        lines = list_draft(draft)
        self.assertEqual(draft, before)
        again = list(lines)
        read_listing(lines)
        self.assertEqual(lines, again)


def random_draft(chance):
    """Returns a draft that a listing can hold."""
    def number():
        return chance.choice([0, 1, -1, 10, 123456789, -987654321, 999999999, chance.randrange(-99, 99)])

    def text(least, letters):
        return "".join(chance.choice(letters) for _ in range(chance.randrange(least, 6)))

    literals = []
    for _ in range(chance.randrange(5)):
        literals.append(chance.choice([
            ("int", number()), ("symbol", text(0, "a n\\\n:'")), ("selector", text(0, "a n\\\n:'")),
            ("global", text(1, "an\\:'3")), ("block", number(), number(), number(), number())]))
    code = []
    for _ in range(chance.randrange(6)):
        op = chance.choice(list(NUMBERS))
        code.append((op, 0 if op in BARE else chance.choice([0, 1, 65535, chance.randrange(65536)])))
    return Draft(text(1, "an\\:'+"), number(), number(), number(), code, literals)


if __name__ == "__main__":
    unittest.main()
