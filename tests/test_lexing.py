"""Words of a source: points 07.1 to 07.3."""

import unittest

from saggar.errors import Malformed, Oversized
from saggar.lexing import arity, is_name, tokens_of

LETTERS = "abcdefghijklmnopqrstuvwxyzABCDEFGHIJKLMNOPQRSTUVWXYZ"
LONG = "n" * 32
TOO_LONG = "n" * 33


def values(source):
    """Returns the pairs (kind, value) of the tokens."""
    return [(kind, value) for _, kind, value in tokens_of(source)]


class Tokens(unittest.TestCase):
    def malformed(self, source, at):
        with self.assertRaises(Malformed) as caught:
            tokens_of(source)
        self.assertEqual(caught.exception.at, at, source)

    def test_nothing(self):
        for source in ("", " ", "\n", " \n  \n", '""', '"x"', ' "a b" \n"c"'):
            self.assertEqual(tokens_of(source), [])

    def test_places_and_blanks(self):
        self.assertEqual(tokens_of(" a\n\n b"), [(1, "name", "a"), (5, "name", "b")])
        self.assertEqual(tokens_of("a(b)"), [(0, "name", "a"), (1, "mark", "("), (2, "name", "b"), (3, "mark", ")")])
        self.assertIs(type(tokens_of("a")[0]), tuple)

    def test_names(self):
        self.assertEqual(values("a Z9 a1B2 nil"), [("name", "a"), ("name", "Z9"), ("name", "a1B2"), ("name", "nil")])
        self.assertEqual(values(LETTERS[:30] + " " + LETTERS[30:]), [("name", LETTERS[:30]), ("name", LETTERS[30:])])
        self.assertEqual(values(LONG), [("name", LONG)])
        self.malformed(TOO_LONG, 0)
        self.malformed("a " + TOO_LONG + " b", 2)
        self.malformed("a" + "1" * 32, 0)

    def test_each_letter_and_each_digit(self):
        for letter in LETTERS:
            self.assertEqual(values(letter + " +" + letter), [("name", letter), ("sign", "+"), ("name", letter)])
            self.assertEqual(values(letter + letter + ":"), [("keyword", letter + letter + ":")])
        for digit in "0123456789":
            self.assertEqual(values("a" + digit), [("name", "a" + digit)])
            self.assertEqual(values(digit), [("number", int(digit))])

    def test_keywords(self):
        self.assertEqual(values("at:put: x:y"), [("keyword", "at:"), ("keyword", "put:"), ("keyword", "x:"), ("name", "y")])
        self.assertEqual(values("a :b"), [("name", "a"), ("mark", ":"), ("name", "b")])
        self.assertEqual(values(LONG + ":"), [("keyword", LONG + ":")])
        self.assertEqual(values("self:"), [("keyword", "self:")])
        self.assertEqual(values("a: =b"), [("keyword", "a:"), ("sign", "="), ("name", "b")])
        self.malformed(TOO_LONG + ":", 0)

    def test_setting_behind_a_name(self):
        self.assertEqual(values("a:=b"), [("name", "a"), ("mark", ":="), ("name", "b")])
        self.assertEqual(values("a:==b"), [("name", "a"), ("mark", ":="), ("sign", "="), ("name", "b")])
        self.assertEqual(values("a::=b"), [("keyword", "a:"), ("mark", ":="), ("name", "b")])
        self.assertEqual(values("a := b"), [("name", "a"), ("mark", ":="), ("name", "b")])
        self.assertEqual(values(": ="), [("mark", ":"), ("sign", "=")])

    def test_numbers(self):
        self.assertEqual(values("0 7 10 123456789 999999999"), [("number", n) for n in (0, 7, 10, 123456789, 999999999)])
        self.assertIs(type(tokens_of("12")[0][2]), int)
        self.assertEqual(values("12:3"), [("number", 12), ("mark", ":"), ("number", 3)])
        self.assertEqual(values("1.2"), [("number", 1), ("mark", "."), ("number", 2)])
        self.assertEqual(values("1#a"), [("number", 1), ("symbol", "a")])
        for source in ("00", "01", "1234567890", "1000000000000", "1a", "0x", "12b3", "0a"):
            self.malformed(source, 0)
            self.malformed("a " + source, 2)

    def test_symbols_of_names(self):
        self.assertEqual(values("#a #Ab1#c"), [("symbol", "a"), ("symbol", "Ab1"), ("symbol", "c")])
        self.assertEqual(values("#nil"), [("symbol", "nil")])
        self.assertEqual(values("#" + LONG), [("symbol", LONG)])
        for source in ("#", "# a", "#1", "##a", "#'a'", "#:", "#+", '#"c"a', "#" + TOO_LONG, "#" + TOO_LONG + ":"):
            self.malformed(source, 0)

    def test_symbols_of_keywords(self):
        self.assertEqual(values("#a:"), [("symbol", "a:")])
        self.assertEqual(values("#at:put:"), [("symbol", "at:put:")])
        self.assertEqual(values("#at:put"), [("symbol", "at:"), ("name", "put")])
        self.assertEqual(values("#at: put:"), [("symbol", "at:"), ("keyword", "put:")])
        self.assertEqual(values("#" + LONG + ":" + LONG + ":"), [("symbol", LONG + ":" + LONG + ":")])
        self.malformed("#at:" + TOO_LONG, 4)
        self.malformed("#at:" + TOO_LONG + ":", 4)
        self.malformed("#at:put:" + TOO_LONG + ":", 8)

    def test_symbols_before_setting(self):
        self.assertEqual(values("#a:=b"), [("symbol", "a"), ("mark", ":="), ("name", "b")])
        self.assertEqual(values("#a:b:=c"), [("symbol", "a:"), ("name", "b"), ("mark", ":="), ("name", "c")])
        self.assertEqual(values("#a::=c"), [("symbol", "a:"), ("mark", ":="), ("name", "c")])

    def test_quoted_texts(self):
        self.assertEqual(values("'' 'a' 'a b'"), [("symbol", ""), ("symbol", "a"), ("symbol", "a b")])
        self.assertEqual(values("'it''s'''"), [("symbol", "it's'")])
        self.assertEqual(values("''''"), [("symbol", "'")])
        self.assertEqual(values("'''' ''''''"), [("symbol", "'"), ("symbol", "''")])
        self.assertEqual(values("'a\nb\"c\"!$;'"), [("symbol", 'a\nb"c"!$;')])
        self.assertEqual(tokens_of("a'b'c"), [(0, "name", "a"), (1, "symbol", "b"), (4, "name", "c")])
        for source in ("'", "'a", "'a''", "'''", "'a''b"):
            self.malformed(source, 0)
            self.malformed("x " + source, 2)

    def test_comments(self):
        self.assertEqual(tokens_of('a"b"c'), [(0, "name", "a"), (4, "name", "c")])
        self.assertEqual(tokens_of('"it\'s"a'), [(6, "name", "a")])
        self.assertEqual(tokens_of('1"x"2'), [(0, "number", 1), (4, "number", 2)])
        self.assertEqual(values('"a""b"c'), [("name", "c")])
        self.assertEqual(values('at":"'), [("name", "at")])
        self.assertEqual(values('+"":"" ='), [("sign", "+"), ("mark", ":"), ("sign", "=")])
        self.malformed('"', 0)
        self.malformed('a "b', 2)
        self.malformed('"a" "b" "', 8)

    def test_signs(self):
        for first in "+-*/<>=~&,@":
            self.assertEqual(values(first), [("sign", first)])
            for second in "+-*/<>=~&,@":
                self.assertEqual(values(first + second), [("sign", first + second)])
                self.assertEqual(values(first + second + first), [("sign", first + second), ("sign", first)])
        self.assertEqual(values("+ -"), [("sign", "+"), ("sign", "-")])
        self.assertEqual(values("--3"), [("sign", "--"), ("number", 3)])
        self.assertEqual(values("=:="), [("sign", "="), ("mark", ":=")])

    def test_marks(self):
        self.assertEqual(values(":=:^.|()[]"), [("mark", mark) for mark in [":=", ":", "^", ".", "|", "(", ")", "[", "]"]])
        self.assertEqual(values("||"), [("mark", "|"), ("mark", "|")])

    def test_characters_that_begin_no_token(self):
        for character in "!$;?\\`_{}":
            self.malformed(character, 0)
            self.malformed("ab " + character + " c", 3)
        self.malformed("a_b", 1)

    def test_the_first_one_is_told(self):
        self.malformed("a 12b ! 'x", 2)
        self.malformed("a ! 12b", 2)
        self.malformed('"x" \'a! ', 4)

    def test_long_sources(self):
        self.assertEqual(tokens_of(" " * 3999 + "a"), [(3999, "name", "a")])
        for source in (" " * 4001, "!" + " " * 4000, "a " * 3000):
            with self.assertRaises(Oversized) as caught:
                tokens_of(source)
            self.assertEqual(caught.exception.limit, "source")
        self.malformed(" " * 3999 + "!", 3999)

    def test_returned_lists_are_new(self):
        tokens_of("a b").clear()
        self.assertEqual(len(tokens_of("a b")), 2)


class Texts(unittest.TestCase):
    def test_names(self):
        for text in ("a", "Z", "a1", "nil", "super", LONG):
            self.assertIs(is_name(text), True)
        for text in ("", "1", "1a", "a b", "a:", " a", "a\n", "+", "a_b", "_a", "#a", TOO_LONG):
            self.assertIs(is_name(text), False)

    def test_arity(self):
        for selector, count in (("a", 0), ("a:", 1), ("a:b:", 2), ("a:" * 15, 15), ("", 0), (":", 1)):
            self.assertEqual(arity(selector), count)
        for sign in "+-*/<>=~&,@":
            self.assertEqual([arity(sign), arity(sign + "="), arity(sign + "a:b:")], [1, 1, 1])


if __name__ == "__main__":
    unittest.main()
