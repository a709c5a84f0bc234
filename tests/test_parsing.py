"""Trees of a source: points 08.1 to 08.5."""

import random
import unittest

from saggar.errors import Malformed, Oversized
from saggar.lexing import tokens_of
from saggar.parsing import levels_of, parse_method, without_places
from tests.grammar import first_misfit
from tests.growing import Writer, grow_method

GREATEST = (1 << 28) - 1


def statements(source):
    """Returns the statements of a source behind the pattern `f`."""
    return parse_method("f " + source)[4]


def expression(source):
    """Returns the one expression of a source behind the pattern `f`."""
    ((kind, tree),) = statements(source)
    assert kind == "do"
    return tree


def bare(source):
    """Returns the one expression of a source, without places."""
    return without_places(parse_method("f " + source))[4][0][1]


def var(name):
    return ("var", name, 0)


def send(receiver, selector, *arguments):
    return ("send", receiver, selector, arguments, 0)


class Rules(unittest.TestCase):
    def test_patterns(self):
        self.assertEqual(parse_method(" foo"), ("method", "foo", (), (), ()))
        self.assertEqual(parse_method("<= b"), ("method", "<=", (("b", 3),), (), ()))
        self.assertEqual(parse_method("- b"), ("method", "-", (("b", 2),), (), ()))
        self.assertEqual(parse_method("at: k put:v"), ("method", "at:put:", (("k", 4), ("v", 10)), (), ()))
        self.assertEqual(parse_method("nil: k"), ("method", "nil:", (("k", 5),), (), ()))

    def test_temporary_names(self):
        self.assertEqual(parse_method("f | a  b|")[3], (("a", 4), ("b", 7)))
        self.assertEqual(parse_method("f ||"), ("method", "f", (), (), ()))
        self.assertEqual(parse_method("f | | a")[3:], ((), (("do", ("var", "a", 6)),)))

    def test_statements(self):
        self.assertEqual(statements(""), ())
        self.assertEqual(statements("a"), (("do", ("var", "a", 2)),))
        self.assertEqual(statements("a. ^b ."), (("do", ("var", "a", 2)), ("return", ("var", "b", 6), 5)))
        self.assertEqual(statements("^a. b"), (("return", ("var", "a", 3), 2), ("do", ("var", "b", 6))))

    def test_primaries(self):
        self.assertEqual(expression("12"), ("int", 12))
        self.assertEqual(expression("-12"), ("int", -12))
        self.assertEqual(expression("0"), ("int", 0))
        self.assertEqual(expression("-0"), ("int", 0))
        self.assertEqual(expression("#at:put:"), ("symbol", "at:put:"))
        self.assertEqual(expression("'a b'"), ("symbol", "a b"))
        for word in ("nil", "true", "false", "self"):
            self.assertEqual(expression(word), (word,))
        self.assertEqual(expression("((a))"), ("var", "a", 4))

    def test_numbers_at_the_edges(self):
        self.assertEqual(expression("268435455"), ("int", GREATEST))
        self.assertEqual(expression("-268435455"), ("int", -GREATEST))
        self.assertEqual(expression("-268435456"), ("int", -GREATEST - 1))
        self.assertEqual(bare("a -268435455"), send(var("a"), "-", ("int", GREATEST)))
        self.assertEqual(bare("a - -268435456"), send(var("a"), "-", ("int", -GREATEST - 1)))

    def test_unary_sends(self):
        inner = ("send", ("var", "a", 2), "b", (), 4)
        self.assertEqual(expression("a b c"), ("send", inner, "c", (), 6))

    def test_binary_sends(self):
        first = ("send", ("var", "a", 2), "+", (("send", ("var", "b", 6), "c", (), 8),), 4)
        self.assertEqual(expression("a + b c * d"), ("send", first, "*", (("var", "d", 12),), 10))
        self.assertEqual(bare("a+-3"), send(var("a"), "+-", ("int", 3)))
        self.assertEqual(bare("3-4"), send(("int", 3), "-", ("int", 4)))
        self.assertEqual(bare("a - -3 foo"), send(var("a"), "-", send(("int", -3), "foo")))

    def test_keyword_sends(self):
        tree = ("send", ("var", "a", 2), "at:put:", (("var", "b", 8), ("send", ("var", "c", 15), "+", (("int", 1),), 17)), 4)
        self.assertEqual(expression("a at: b put: c + 1"), tree)
        self.assertEqual(bare("a b at: c d"), send(send(var("a"), "b"), "at:", send(var("c"), "d")))
        self.assertEqual(bare("a x: (b x: c) x: d"), send(var("a"), "x:x:", send(var("b"), "x:", var("c")), var("d")))

    def test_setting(self):
        self.assertEqual(expression("a := b"), ("set", "a", ("var", "b", 7), 2))
        self.assertEqual(expression("a:=b:=c d"), ("set", "a", ("set", "b", ("send", ("var", "c", 8), "d", (), 10), 5), 2))
        self.assertEqual(bare("a foo: (b := c)"), send(var("a"), "foo:", ("set", "b", var("c"), 0)))
        self.assertEqual(statements("^a := 1"), (("return", ("set", "a", ("int", 1), 3), 2),))

    def test_blocks(self):
        self.assertEqual(expression("[]"), ("block", (), (), (), 2))
        self.assertEqual(expression("[a. ^b.]"), ("block", (), (), (("do", ("var", "a", 3)), ("return", ("var", "b", 7), 6)), 2))
        self.assertEqual(expression("[:a :b|]"), ("block", (("a", 4), ("b", 7)), (), (), 2))
        self.assertEqual(expression("[|t|t]"), ("block", (), (("t", 4),), (("do", ("var", "t", 6)),), 2))
        self.assertEqual(expression("[:a||t u|]"), ("block", (("a", 4),), (("t", 7), ("u", 9)), (), 2))
        self.assertEqual(expression("[:a | | | ]"), ("block", (("a", 4),), (), (), 2))
        self.assertEqual(expression("[: a | a]")[1], (("a", 5),))

    def test_super(self):
        self.assertEqual(expression("super foo"), ("super", "foo", (), 8))
        self.assertEqual(expression("super + 1"), ("super", "+", (("int", 1),), 8))
        self.assertEqual(expression("super a: b c: d"), ("super", "a:c:", (("var", "b", 11), ("var", "d", 16)), 8))
        self.assertEqual(bare("super a b"), send(("super", "a", (), 0), "b"))
        self.assertEqual(bare("super + 1 + 2"), send(("super", "+", (("int", 1),), 0), "+", ("int", 2)))
        self.assertEqual(bare("a + super foo"), send(var("a"), "+", ("super", "foo", (), 0)))
        self.assertEqual(bare("a x: super + 1 y: 2"), send(var("a"), "x:y:", ("super", "+", (("int", 1),), 0), ("int", 2)))
        self.assertEqual(bare("super foo: super bar"), ("super", "foo:", (("super", "bar", (), 0),), 0))

    def test_reserved_names_in_keywords(self):
        self.assertEqual(bare("a self: b super: c"), send(var("a"), "self:super:", var("b"), var("c")))


class Misfits(unittest.TestCase):
    def malformed(self, source, at):
        with self.assertRaises(Malformed) as caught:
            parse_method(source)
        self.assertEqual(caught.exception.at, at, source)
        self.assertEqual(first_misfit(tokens_of(source), len(source)), at, source)

    def test_the_end_of_the_source(self):
        for source in ("", "  ", '"x" ', "+", "- ", "at:", "at: k put:", "f |", "f |a ", "f ^", "f a :=", "f a + "):
            self.malformed(source, len(source))
        for source in ("f (", "f [", "f [a", "f (a", "f [:", "f [:a", "f [:a |", "f -", "f super", "f a foo: "):
            self.malformed(source, len(source))

    def test_patterns(self):
        self.malformed("3", 0)
        self.malformed("#a", 0)
        self.malformed("+ 3", 2)
        self.malformed("- 3", 2)
        self.malformed("+ + a", 2)
        self.malformed("a: b: c", 3)
        self.malformed("a: b c: |t|", 8)
        self.malformed("(f)", 0)

    def test_reserved_names(self):
        for word in ("nil", "true", "false", "self", "super"):
            self.malformed(word, 0)
            self.malformed("+ " + word, 2)
            self.malformed("a: b c: " + word, 8)
            self.malformed("f |a " + word + "|", 5)
            self.malformed("f [:" + word + "|]", 4)
            self.malformed("f [|" + word + "|]", 4)
            self.malformed("f a " + word, 4)
            self.malformed("f 3 foo " + word, 8)
            self.malformed("f " + word + " := 3", 3 + len(word))
            self.malformed("f a := " + word + " := 3", 8 + len(word))

    def test_super_that_receives_nothing(self):
        self.malformed("f super", 7)
        self.malformed("f super.", 7)
        self.malformed("f ^(super)", 9)
        self.malformed("f (super) foo", 8)
        self.malformed("f a + super", 11)
        self.malformed("f a + super + b", 12)
        self.malformed("f a + super foo: b", 12)
        self.malformed("f a foo: super", 14)
        self.malformed("f a foo: super bar: b", 15)
        self.malformed("f super foo: super bar: b", 19)
        self.malformed("f a := super.", 12)
        self.malformed("f [super]", 8)
        self.malformed("f super super", 8)
        self.malformed("f super := 3", 8)
        self.malformed("f super 3", 8)
        self.malformed("f super self", 8)

    def test_numbers(self):
        self.malformed("f 268435456", 2)
        self.malformed("f a - 268435456", 6)
        self.malformed("f a -268435456", 5)
        self.malformed("f -268435457", 3)
        self.malformed("f a foo: 999999999", 9)
        self.malformed("f ^- 3", 5)
        self.malformed('f ^-"x"3', 7)
        self.malformed("f -a", 3)
        self.malformed("f - -3", 4)
        self.malformed("f --3", 2)
        self.malformed("f +3", 2)
        self.malformed("f a foo: - 3", 11)
        self.malformed("f 3 4", 4)

    def test_statements(self):
        self.malformed("f .", 2)
        self.malformed("f a..", 4)
        self.malformed("f a. . b", 5)
        self.malformed("f ^^a", 3)
        self.malformed("f (^a)", 3)
        self.malformed("f a ^b", 4)
        self.malformed("f |a||b|", 5)
        self.malformed("f a |b|", 4)
        self.malformed("f a]", 3)
        self.malformed("f a)", 3)

    def test_setting(self):
        self.malformed("f 3 := 4", 4)
        self.malformed("f (a) := 4", 6)
        self.malformed("f a b := 4", 6)
        self.malformed("f a foo: b := 4", 11)
        self.malformed("f a + b := 4", 8)
        self.malformed("f := 4", 2)

    def test_blocks(self):
        self.malformed("f [:a]", 5)
        self.malformed("f [:a b]", 6)
        self.malformed("f [:a :]", 7)
        self.malformed("f [:a. a]", 5)
        self.malformed("f [|]", 4)
        self.malformed("f [a | b]", 5)
        self.malformed("f [:a | b | c]", 10)
        self.malformed("f [:a:b|]", 4)
        self.malformed("f [a)", 4)
        self.malformed("f (a]", 4)
        self.malformed("f ()", 3)
        self.malformed("f (a. b)", 4)

    def test_tokens_come_first(self):
        self.malformed_token("f ) 12b", 4)
        self.malformed_token("f a..'", 5)

    def malformed_token(self, source, at):
        with self.assertRaises(Malformed) as caught:
            parse_method(source)
        self.assertEqual(caught.exception.at, at)

    def test_random_tokens(self):
        pieces = ["a", "b", "foo:", "bar:", "nil", "self", "super", "3", "268435456", "#s", "-", "- ", "+"]
        pieces = pieces + [":=", ":", "^", ".", "|", "(", ")", "[", "]", "|t|", "[:x|", "[a]", "(a)"]
        good = 0
        for seed in range(4000):
            chance = random.Random(seed)
            parts = [chance.choice(["f", "+ a", "k: a", "f"])]
            parts += [chance.choice(pieces) for _ in range(chance.randrange(9))]
            source = chance.choice([" ", ""]).join(parts) if chance.random() < 0.3 else " ".join(parts)
            good += self.agrees(source)
        self.assertGreater(good, 100)

    def test_random_changes_of_good_sources(self):
        for seed in range(300):
            chance = random.Random(seed)
            source = Writer(chance).method(grow_method(chance))
            if len(source) > 300:
                continue
            self.agrees(source)
            places = [place for place, _, _ in tokens_of(source)]
            at = chance.choice(places)
            for change in (source[:at], source[:at] + source[at + 1:], source[:at] + chance.choice("|.])^a") + source[at:]):
                self.agrees(change)

    def agrees(self, source):
        """Compares the parser with the rules; returns whether there is a tree."""
        try:
            tokens = tokens_of(source)
        except Malformed:
            return False
        wanted = first_misfit(tokens, len(source))
        try:
            parse_method(source)
            found = None
        except Malformed as error:
            found = error.at
        self.assertEqual(found, wanted, source)
        return found is None


class Limits(unittest.TestCase):
    def oversized(self, source, limit):
        with self.assertRaises(Oversized) as caught:
            parse_method(source)
        self.assertEqual(caught.exception.limit, limit)

    def malformed(self, source, at):
        with self.assertRaises(Malformed) as caught:
            parse_method(source)
        self.assertEqual(caught.exception.at, at)

    def test_the_length_of_a_source(self):
        self.assertEqual(parse_method("f" + " " * 3999), ("method", "f", (), (), ()))
        self.oversized("f" + " " * 4000, "source")
        self.oversized(")" * 4001, "source")

    def test_depth(self):
        self.assertEqual(expression("(" * 20 + "a" + ")" * 20), ("var", "a", 22))
        self.assertEqual(levels_of(parse_method("f " + "[" * 20 + "]" * 20)), 20)
        for opening in ("(", "["):
            self.oversized("f " + opening * 21, "depth")
            self.oversized("f " + "([" * 10 + opening + "a", "depth")
        # Others that are closed do not count.
        self.assertEqual(len(statements("(a) b: [" + "(" * 18 + "[]" + ")" * 18 + "]. (a)")), 2)

    def test_what_is_closed_no_longer_counts(self):
        for closed in ("(a)", "[]", "[(a)]", "([a])"):
            self.assertEqual(len(statements("(" * 18 + closed + " + ([a])" + ")" * 18)), 1)
            self.oversized("f " + "(" * 18 + closed + " + ([(a)])" + ")" * 18, "depth")

    def test_depth_is_told_at_its_token(self):
        self.oversized("f " + "(" * 21 + " )", "depth")
        self.malformed("f " + "(" * 20 + ") (", 22)
        self.malformed("f ) " + "(" * 21, 2)
        self.malformed("f " + "(" * 21 + " 12b", 24)

    def test_arguments_of_patterns(self):
        self.assertEqual(len(parse_method("k: a " * 15)[2]), 15)
        self.oversized("k: a " * 16, "arguments")
        self.oversized("k: a " * 15 + "k:", "arguments")
        self.malformed("k: a " * 15 + "k: 12b", 78)

    def test_arguments_of_sends(self):
        self.assertEqual(len(expression("a" + " k: 1" * 15)[3]), 15)
        self.oversized("f a" + " k: 1" * 16, "arguments")
        self.oversized("f super" + " k: 1" * 15 + " k:", "arguments")
        nested = "(a" + " k: 1" * 15 + ")"
        self.assertEqual(len(expression("a" + (" k: " + nested) * 15)[3]), 15)
        self.malformed("f a" + " k: 1" * 14 + " k: k:", 77)

    def test_parameters_of_blocks(self):
        self.assertEqual(len(expression("[" + ":a " * 15 + "|]")[1]), 15)
        self.oversized("f [" + ":a " * 16 + "|]", "arguments")
        self.oversized("f [" + ":a " * 15 + ":", "arguments")
        self.malformed("f [" + ":a " * 14 + ": :", 47)

    def test_the_first_one_comes_first(self):
        self.oversized("f a" + " k: 1" * 15 + " k: " + "(" * 21, "arguments")
        self.oversized("f a" + " k: 1" * 14 + " k: " + "(" * 21 + " k:", "depth")
        self.oversized("f " + "[" * 20 + ":a " * 16, "arguments")
        self.oversized("f a" + " b" * 41 + ". " + "(" * 21, "depth")
        self.malformed("f a" + " b" * 41 + ". )", 87)

    def test_levels(self):
        self.assertEqual(levels_of(parse_method("f a" + " b" * 39)), 40)
        self.oversized("f a" + " b" * 40, "levels")
        self.assertEqual(levels_of(parse_method("f " + "a := " * 39 + "b")), 40)
        self.oversized("f " + "a := " * 40 + "b", "levels")
        self.assertEqual(levels_of(parse_method("f a" + " + b" * 39)), 40)
        self.oversized("f a" + " + b" * 40, "levels")
        self.assertEqual(levels_of(parse_method("f " + "[" * 19 + "a" + " b" * 20 + "]" * 19)), 40)
        self.oversized("f " + "[" * 19 + "a" + " b" * 21 + "]" * 19, "levels")
        self.assertEqual(levels_of(parse_method("f " + "(" * 20 + "a" + ")" * 20 + " b" * 39)), 40)

    def test_very_many_levels(self):
        self.oversized("f a" + " b" * 1900, "levels")
        self.oversized("f a" + "+b" * 1900, "levels")
        self.oversized("f " + "a:=" * 1300 + "b", "levels")
        self.malformed("f " + "a:=" * 1300, 3902)

    def test_levels_of(self):
        for source, levels in (("", 0), ("| a |", 0), ("a", 1), ("a. b c. d", 2), ("[]", 1), ("[a]", 2), ("[a b. c]", 3)):
            self.assertEqual(levels_of(parse_method("f " + source)), levels)
        for source, levels in (("a := 3", 2), ("a + (b + c)", 3), ("(a + b) + c", 3), ("a k: 1 k: b c", 3), ("^a b", 2)):
            self.assertEqual(levels_of(parse_method("f " + source)), levels)
        for source, levels in (("super a", 1), ("super a b", 2), ("super + a", 2), ("super a: (b c)", 3), ("((a))", 1)):
            self.assertEqual(levels_of(parse_method("f " + source)), levels)


class Places(unittest.TestCase):
    def test_without_places(self):
        source = "k: a | t | t := [:x | | y | ^x + (super foo: t)]. ^#s b: nil"
        body = ("return", send(var("x"), "+", ("super", "foo:", (var("t"),), 0)), 0)
        block = ("block", (("x", 0),), (("y", 0),), (body,), 0)
        wanted = ("method", "k:", (("a", 0),), (("t", 0),), (
            ("do", ("set", "t", block, 0)), ("return", send(("symbol", "s"), "b:", ("nil",)), 0)))
        tree = parse_method(source)
        self.assertEqual(without_places(tree), wanted)
        self.assertEqual(tree, parse_method(source))
        self.assertEqual(without_places(wanted), wanted)

    def test_random_trees(self):
        for seed in range(400):
            chance = random.Random(seed)
            tree = grow_method(chance)
            source = Writer(chance).method(tree)
            if len(source) > 4000:
                continue
            found = parse_method(source)
            self.assertEqual(without_places(found), tree, source)
            self.check_places(found, source)

    def check_places(self, tree, source):
        """Looks for each name and selector at the place that the tree tells."""
        if tree[0] == "return":
            self.assertEqual(source[tree[2]], "^")
        elif tree[0] == "block":
            self.assertEqual(source[tree[4]], "[")
        elif tree[0] in ("var", "set"):
            self.assertTrue(source.startswith(tree[1], tree[-1]))
        elif tree[0] in ("send", "super"):
            selector = tree[2] if tree[0] == "send" else tree[1]
            first = selector.split(":")[0]
            self.assertTrue(source.startswith(first, tree[-1]))
        for part in tree[1:]:
            self.check_part(part, source)

    def check_part(self, part, source):
        if isinstance(part, tuple) and part and isinstance(part[0], str):
            if isinstance(part[-1], int) and len(part) == 2 and part[0] not in ("int",):
                self.assertTrue(source.startswith(part[0], part[1]))
            else:
                self.check_places(part, source)
        elif isinstance(part, tuple):
            for inner in part:
                self.check_part(inner, source)


if __name__ == "__main__":
    unittest.main()
