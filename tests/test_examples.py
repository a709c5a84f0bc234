"""The examples of the interface, as they stand."""

import unittest

from tests.transcripts import run_session

WORDS = """
>>> from saggar.words import is_word, of_int, of_ref, of_symbol, ref_of, symbol_of
>>> [of_int(-3), of_symbol(5), of_ref(5)]
[-11, 23, 10]
>>> symbol_of(23)
5
>>> [is_word(-2), is_word(200000), is_word(399999), is_word(400003)]
[False, False, True, False]
>>> ref_of(23)
raises BadWord(23)
"""

STORE = """
>>> from saggar.store import Store
>>> store = Store(9, 5)
>>> [store.allocate(0, 1), store.allocate(7, 0)]
[0, 1]
>>> store.put(0, 0, 5)
>>> store.words
[0, 1, 0, 5, 1, 0, 7]
>>> store.drop(0)
>>> store.allocate(0, 0)
raises NoRoom(3)
>>> store.close_up()
>>> store.allocate(3, 2)
0
>>> store.words
[1, 0, 7, 0, 2, 3, 0, 0]
"""

COLLECTING = """
>>> from saggar.collecting import collect, reached, words_of
>>> from saggar.store import Store
>>> store = Store(20, 5)
>>> [store.allocate(1, 1), store.allocate(1, 0), store.allocate(0, 1)]
[0, 1, 2]
>>> store.put(2, 0, 4)
>>> sorted(reached(store, [4, 7, 18]))
[0, 2]
>>> words_of(store, [0, 2])
8
>>> collect(store, [4])
1
>>> store.words
[0, 1, 1, 0, 2, 1, 0, 4]
"""

SPACES = """
>>> from saggar.spaces import Space
>>> space = Space(8, 9)
>>> [space.new(0, 0), space.new(0, 1), space.store.used()]
[0, 1, 7]
>>> space.live_words()
3
>>> [space.new(0, 2), space.collections, space.store.words]
[1, 1, [0, 0, 0, 1, 2, 0, 0, 0]]
>>> space.set_root(3, 2)
>>> space.new(0, 0)
raises NoRoom(3)
>>> [space.allocations, space.collections]
[4, 2]
>>> space.begin()
>>> space.collect()
raises Wrong("open")
"""

SYMBOLS = """
>>> from saggar.symbols import Symbols
>>> symbols = Symbols(2)
>>> [symbols.number("at:"), symbols.number("x"), symbols.number("at:")]
[0, 1, 0]
>>> symbols.number("y")
raises NoSymbol(2)
>>> symbols.cut(1)
>>> [symbols.knows("x"), symbols.number("y"), symbols.texts()]
[False, 1, ['at:', 'y']]
"""

LEXING = """
>>> from saggar.lexing import arity, tokens_of
>>> tokens_of("x := #at:put: -- 'it''s'")
[(0, 'name', 'x'), (2, 'mark', ':='), (5, 'symbol', 'at:put:'), (14, 'sign', '--'), (17, 'symbol', "it's")]
>>> [arity("at:put:"), arity("<="), arity("size")]
[2, 1, 0]
>>> tokens_of("a 12b")
raises Malformed
"""

PARSING = """
>>> from saggar.parsing import parse_method, without_places
>>> parse_method("+ n ^ x plus: n - -3")
('method', '+', (('n', 2),), (), (('return', ('send', ('var', 'x', 6), 'plus:', (('send', ('var', 'n', 14), '-', (('int', -3),), 16),), 8), 4),))
>>> without_places(parse_method("f | t | t := [:a | a] . super f"))[4][1]
('do', ('super', 'f', (), 0))
>>> parse_method("f ^ (super)")
raises Malformed
"""

PRINTING = r"""
>>> from saggar.parsing import parse_method
>>> from saggar.printing import print_method
>>> print_method(parse_method("at:k put:v |t|t:=(a foo)bar:-1+2. ^[:x|x baz]"))
'at: k put: v\n| t |\nt := a foo bar: -1 + 2.\n^ [:x | x baz]'
"""

CODING = """
>>> from saggar.coding import compile_method
>>> from saggar.parsing import parse_method
>>> draft = compile_method(parse_method("f: a ^ a > n ifTrue: [n := a] ifFalse: [[:x | x + a]]"), ["n"], [])
>>> draft.code[:8]
[('local', 0), ('field', 0), ('send', 1), ('jump_false', 7), ('local', 0), ('set_field', 0), ('jump', 13), ('block', 1)]
>>> [draft.code[8:], draft.literals, draft.stack]
[[('jump', 13), ('local', 0), ('outer', 256), ('send', 33), ('leave', 0), ('return', 0)], [('selector', '>'), ('block', 1, 1, 9, 2), ('selector', '+')], 2]
"""


CHECKING = """
>>> from saggar.checking import check_code, heights
>>> from saggar.coding import Draft
>>> draft = Draft("f", 0, 1, 1, [("local", 0), ("jump_false", 0), ("self", 0), ("return", 0)], [])
>>> [check_code(draft, 0), heights(draft)]
[None, {0: 0, 1: 1, 2: 0, 3: 1}]
>>> check_code(Draft("f", 0, 1, 1, [("local", 0), ("local", 1), ("return", 0)], []), 0)
('arg', 1)
"""

LISTING = """
>>> from saggar.coding import Draft
>>> from saggar.listing import list_draft, number_of
>>> list_draft(Draft("f", 0, 0, 1, [("literal", 0), ("return", 0)], [("symbol", "a b")]))
['method f 0 0 1', 'symbol a b', 'code', 'literal 0', 'return']
>>> number_of("send", 33)
983073
"""

KERNEL = """
>>> from saggar.kernel import define_class, new_image
>>> image = new_image(2000, 200)
>>> define_class(image, "Point", "Object", ["x", "y"])
>>> define_class(image, "Spot", "Point", ["colour"])
>>> [image.fields(image.class_named("Spot")), image.layout(image.class_named("Spot")), image.global_names()[15:]]
[['x', 'y', 'colour'], 3, ['Point', 'Spot']]
>>> [image.class_name(image.class_of(0)), image.class_name(image.class_of(5)), image.class_name(image.class_of(image.symbol("a")))]
['Undefined', 'Integer', 'Symbol']
"""

METHODS = """
>>> from saggar.kernel import define_class, new_image
>>> from saggar.lookup import lookup, selectors
>>> from saggar.methods import install, source_of
>>> image = new_image(4000, 400)
>>> define_class(image, "Point", "Object", ["x"])
>>> point = image.class_named("Point")
>>> method = install(image, point, "x ^ x")
>>> [selectors(image, point), lookup(image, point, image.symbol("x")) == method, source_of(image, method)]
[['x'], True, 'x ^ x']
"""


class Examples(unittest.TestCase):
    def test_words(self):
        run_session(self, WORDS)

    def test_store(self):
        run_session(self, STORE)

    def test_collecting(self):
        run_session(self, COLLECTING)

    def test_spaces(self):
        run_session(self, SPACES)

    def test_symbols(self):
        run_session(self, SYMBOLS)

    def test_lexing(self):
        run_session(self, LEXING)

    def test_parsing(self):
        run_session(self, PARSING)

    def test_printing(self):
        run_session(self, PRINTING)

    def test_coding(self):
        run_session(self, CODING)

    def test_checking(self):
        run_session(self, CHECKING)

    def test_listing(self):
        run_session(self, LISTING)

    def test_kernel(self):
        run_session(self, KERNEL)

    def test_methods(self):
        run_session(self, METHODS)


if __name__ == "__main__":
    unittest.main()
