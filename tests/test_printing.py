"""Sources of trees: points 09.1 to 09.4."""

import random
import unittest

from saggar.errors import Malformed
from saggar.parsing import parse_method, without_places
from saggar.printing import print_method
from tests.growing import Writer, grow_method


def printed(source):
    """Returns the canonical source of a source."""
    return print_method(parse_method(source))


def statement(source):
    """Returns the canonical source of a statement."""
    text = printed("f " + source)
    assert text.startswith("f\n")
    return text[2:]


class Methods(unittest.TestCase):
    def test_patterns(self):
        self.assertEqual(printed(" foo "), "foo\n")
        self.assertEqual(printed("<=b"), "<= b\n")
        self.assertEqual(printed("- b"), "- b\n")
        self.assertEqual(printed("at:k\nput:v"), "at: k put: v\n")

    def test_temporary_names(self):
        self.assertEqual(printed("f|a b|"), "f\n| a b |\n")
        self.assertEqual(printed("f||"), "f\n")
        self.assertEqual(printed("f: x|a|a"), "f: x\n| a |\na")

    def test_statements(self):
        self.assertEqual(printed("f a"), "f\na")
        self.assertEqual(printed("f a.b.^c."), "f\na.\nb.\n^ c")
        self.assertEqual(printed("f|t|^1.2"), "f\n| t |\n^ 1.\n2")


class Forms(unittest.TestCase):
    def same(self, *texts):
        for text in texts:
            self.assertEqual(statement(text), text)

    def test_primaries(self):
        self.same("a", "0", "12", "-12", "-268435456", "nil", "true", "false", "self", "[]")
        self.assertEqual(statement("-0"), "0")
        self.assertEqual(statement("(a)"), "a")

    def test_symbols(self):
        self.same("#a", "#at:", "#at:put:", "''", "'a b'", "'it''s'", "'at:put'", "'1'", "'+'", "'a:='", "' a'", "':'")
        self.assertEqual(statement("'a1'"), "#a1")
        self.assertEqual(statement("'at:put:'"), "#at:put:")
        self.assertEqual(statement("'nil'"), "#nil")
        self.same("#" + "n" * 32, "'" + "n" * 33 + "'", "'" + "n" * 33 + ":'", "'at:" + "n" * 33 + ":'")
        self.same("#" + "n" * 32 + ":", "'a\nb'", "''''", "'\"'")

    def test_sends(self):
        self.same("a b", "a b c", "a + b", "a <= -3", "a at: b", "a at: b put: c", "-3 b", "'x y' b", "[] b")
        self.same("super b", "super + b", "super at: b put: c")
        self.assertEqual(statement("a--1"), "a -- 1")
        self.assertEqual(statement("a- -1"), "a - -1")

    def test_setting_and_returning(self):
        self.same("a := b", "a := b := c", "^ a", "^ a := b", "a := b foo: c", "^ a foo: b + c")
        self.assertEqual(statement("^a:=3"), "^ a := 3")

    def test_blocks(self):
        self.same("[]", "[a]", "[a. b]", "[^ a. b]", "[:x | ]", "[:x :y | x]", "[| t | ]", "[| t u | t]")
        self.same("[:x | | t | x. t]", "[[:x | []]]")
        self.assertEqual(statement("[ :x|||x.]"), "[:x | x]")
        self.assertEqual(statement("[||a]"), "[a]")


class Parentheses(unittest.TestCase):
    def check(self, form, kept, left_out):
        """Puts expressions in parentheses into a place of a form."""
        for text in kept:
            source = form.replace("X", "(" + text + ")")
            self.assertEqual(statement(source), source)
        for text in left_out:
            source = form.replace("X", "(" + text + ")")
            self.assertEqual(statement(source), form.replace("X", text))

    PRIMARIES = ["a", "-3", "#s", "'it''s'", "nil", "[:x | x]"]
    UNARIES = ["a b", "a b c", "super b", "super b c"]
    BINARIES = ["a + b", "a + b + c", "super + b"]
    LOOSE = ["a k: b", "super k: b", "a k: b k: c", "t := a", "t := a k: b"]

    def test_receivers_of_unary_sends(self):
        self.check("X foo", self.BINARIES + self.LOOSE, self.PRIMARIES + self.UNARIES)

    def test_receivers_of_binary_sends(self):
        self.check("X * d", self.LOOSE, self.PRIMARIES + self.UNARIES + self.BINARIES)

    def test_arguments_of_binary_sends(self):
        kept = self.BINARIES + self.LOOSE
        self.check("d * X", kept, self.PRIMARIES + self.UNARIES)
        self.check("super * X", kept, self.PRIMARIES + self.UNARIES)

    def test_keyword_sends(self):
        left_out = self.PRIMARIES + self.UNARIES + self.BINARIES
        self.check("X foo: d", self.LOOSE, left_out)
        self.check("d foo: X", self.LOOSE, left_out)
        self.check("d foo: e bar: X", self.LOOSE, left_out)
        self.check("d foo: X bar: e", self.LOOSE, left_out)
        self.check("super foo: X", self.LOOSE, left_out)

    def test_elsewhere_there_are_none(self):
        everything = self.PRIMARIES + self.UNARIES + self.BINARIES + self.LOOSE
        for form in ("X", "^ X", "t := X", "[X]", "[:x | X. X]", "^ t := X"):
            self.check(form, [], everything)


class ReadingAgain(unittest.TestCase):
    def test_random_trees(self):
        for seed in range(500):
            chance = random.Random(seed)
            tree = grow_method(chance)
            text = print_method(tree)
            if len(text) > 4000:
                continue
            found = parse_method(text)
            self.assertEqual(without_places(found), tree)
            self.assertEqual(print_method(found), text)

    def test_sources_written_in_other_ways(self):
        for seed in range(300):
            chance = random.Random(seed)
            tree = grow_method(chance)
            source = Writer(chance).method(tree)
            if len(source) <= 4000:
                self.assertEqual(printed(source), print_method(tree))

    def test_no_parentheses_are_needless(self):
        pairs = 0
        for seed in range(150):
            tree = grow_method(random.Random(seed))
            text = print_method(tree)
            for first, last in parentheses(text):
                pairs += 1
                less = text[:first] + " " + text[first + 1:last] + " " + text[last + 1:]
                try:
                    self.assertNotEqual(without_places(parse_method(less)), tree)
                except Malformed:
                    pass
        self.assertGreater(pairs, 100)


def parentheses(text):
    """Returns the pairs of places of parentheses outside quoted texts."""
    pairs, opened, quoted = [], [], False
    for place, character in enumerate(text):
        quoted = quoted != (character == "'")
        if character == "(" and not quoted:
            opened.append(place)
        if character == ")" and not quoted:
            pairs.append((opened.pop(), place))
    return pairs


if __name__ == "__main__":
    unittest.main()
