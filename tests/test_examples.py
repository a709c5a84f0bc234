"""The examples of the interface, as they stand."""

import unittest

from tests.transcripts import run_session

WORDS = """
>>> from saggar.words import is_word, of_int, of_ref, of_symbol, ref_of, symbol_of
>>> [of_int(-3), of_symbol(5), of_ref(5)]
[-11, 23, 10]
>>> symbol_of(23)
5
>>> [is_word(-2), is_word(200000), is_word(399999), is_word(400003)]
[False, False, True, False]
>>> ref_of(23)
raises BadWord(23)
"""

STORE = """
>>> from saggar.store import Store
>>> store = Store(9, 5)
>>> [store.allocate(0, 1), store.allocate(7, 0)]
[0, 1]
>>> store.put(0, 0, 5)
>>> store.words
[0, 1, 0, 5, 1, 0, 7]
>>> store.drop(0)
>>> store.allocate(0, 0)
raises NoRoom(3)
>>> store.close_up()
>>> store.allocate(3, 2)
0
>>> store.words
[1, 0, 7, 0, 2, 3, 0, 0]
"""

COLLECTING = """
>>> from saggar.collecting import collect, reached, words_of
>>> from saggar.store import Store
>>> store = Store(20, 5)
>>> [store.allocate(1, 1), store.allocate(1, 0), store.allocate(0, 1)]
[0, 1, 2]
>>> store.put(2, 0, 4)
>>> sorted(reached(store, [4, 7, 18]))
[0, 2]
>>> words_of(store, [0, 2])
8
>>> collect(store, [4])
1
>>> store.words
[0, 1, 1, 0, 2, 1, 0, 4]
"""

SPACES = """
>>> from saggar.spaces import Space
>>> space = Space(8, 9)
>>> [space.new(0, 0), space.new(0, 1), space.store.used()]
[0, 1, 7]
>>> space.live_words()
3
>>> [space.new(0, 2), space.collections, space.store.words]
[1, 1, [0, 0, 0, 1, 2, 0, 0, 0]]
>>> space.set_root(3, 2)
>>> space.new(0, 0)
raises NoRoom(3)
>>> [space.allocations, space.collections]
[4, 2]
>>> space.begin()
>>> space.collect()
raises Wrong("open")
"""

SYMBOLS = """
>>> from saggar.symbols import Symbols
>>> symbols = Symbols(2)
>>> [symbols.number("at:"), symbols.number("x"), symbols.number("at:")]
[0, 1, 0]
>>> symbols.number("y")
raises NoSymbol(2)
>>> symbols.cut(1)
>>> [symbols.knows("x"), symbols.number("y"), symbols.texts()]
[False, 1, ['at:', 'y']]
"""

LEXING = """
>>> from saggar.lexing import arity, tokens_of
>>> tokens_of("x := #at:put: -- 'it''s'")
[(0, 'name', 'x'), (2, 'mark', ':='), (5, 'symbol', 'at:put:'), (14, 'sign', '--'), (17, 'symbol', "it's")]
>>> [arity("at:put:"), arity("<="), arity("size")]
[2, 1, 0]
>>> tokens_of("a 12b")
raises Malformed
"""

PARSING = """
>>> from saggar.parsing import parse_method, without_places
>>> parse_method("+ n ^ x plus: n - -3")
('method', '+', (('n', 2),), (), (('return', ('send', ('var', 'x', 6), 'plus:', (('send', ('var', 'n', 14), '-', (('int', -3),), 16),), 8), 4),))
>>> without_places(parse_method("f | t | t := [:a | a] . super f"))[4][1]
('do', ('super', 'f', (), 0))
>>> parse_method("f ^ (super)")
raises Malformed
"""

PRINTING = r"""
>>> from saggar.parsing import parse_method
>>> from saggar.printing import print_method
>>> print_method(parse_method("at:k put:v |t|t:=(a foo)bar:-1+2. ^[:x|x baz]"))
'at: k put: v\n| t |\nt := a foo bar: -1 + 2.\n^ [:x | x baz]'
"""

CODING = """
>>> from saggar.coding import compile_method
>>> from saggar.parsing import parse_method
>>> draft = compile_method(parse_method("f: a ^ a > n ifTrue: [n := a] ifFalse: [[:x | x + a]]"), ["n"], [])
>>> draft.code[:8]
[('local', 0), ('field', 0), ('send', 1), ('jump_false', 7), ('local', 0), ('set_field', 0), ('jump', 13), ('block', 1)]
>>> [draft.code[8:], draft.literals, draft.stack]
[[('jump', 13), ('local', 0), ('outer', 256), ('send', 33), ('leave', 0), ('return', 0)], [('selector', '>'), ('block', 1, 1, 9, 2), ('selector', '+')], 2]
"""


CHECKING = """
>>> from saggar.checking import check_code, heights
>>> from saggar.coding import Draft
>>> draft = Draft("f", 0, 1, 1, [("local", 0), ("jump_false", 0), ("self", 0), ("return", 0)], [])
>>> [check_code(draft, 0), heights(draft)]
[None, {0: 0, 1: 1, 2: 0, 3: 1}]
>>> check_code(Draft("f", 0, 1, 1, [("local", 0), ("local", 1), ("return", 0)], []), 0)
('arg', 1)
"""

LISTING = """
>>> from saggar.coding import Draft
>>> from saggar.listing import list_draft, number_of
>>> list_draft(Draft("f", 0, 0, 1, [("literal", 0), ("return", 0)], [("symbol", "a b")]))
['method f 0 0 1', 'symbol a b', 'code', 'literal 0', 'return']
>>> number_of("send", 33)
983073
"""

KERNEL = """
>>> from saggar.kernel import define_class, new_image
>>> image = new_image(2000, 200)
>>> define_class(image, "Point", "Object", ["x", "y"])
>>> define_class(image, "Spot", "Point", ["colour"])
>>> [image.fields(image.class_named("Spot")), image.layout(image.class_named("Spot")), image.global_names()[15:]]
[['x', 'y', 'colour'], 3, ['Point', 'Spot']]
>>> [image.class_name(image.class_of(0)), image.class_name(image.class_of(5)), image.class_name(image.class_of(image.symbol("a")))]
['Undefined', 'Integer', 'Symbol']
"""

METHODS = """
>>> from saggar.kernel import define_class, new_image
>>> from saggar.lookup import lookup, selectors
>>> from saggar.methods import install, source_of
>>> image = new_image(4000, 400)
>>> define_class(image, "Point", "Object", ["x"])
>>> point = image.class_named("Point")
>>> method = install(image, point, "x ^ x")
>>> [selectors(image, point), lookup(image, point, image.symbol("x")) == method, source_of(image, method)]
[['x'], True, 'x ^ x']
"""

RUNNING = """
>>> from saggar.kernel import new_image
>>> from saggar.methods import install
>>> from saggar.primitives import install_primitives
>>> from saggar.processes import spawn
>>> from saggar.running import run_image
>>> image = new_image(5000, 1000)
>>> install_primitives(image)
>>> method = install(image, image.kernel("Undefined"), "start ^[[^7] ensure: [#late show]. 3] value + 1")
>>> process = spawn(image, method, 0, [])
>>> [run_image(image, [], 1000), image.trace]
[('done',), [('show', 1, ('symbol', 'late')), ('end', 1, ('value', ('int', 7)))]]
"""

PLAN = """
>>> from saggar.kernel import KERNEL
>>> from saggar.plan import Kind, plan_change
>>> kinds = [Kind(KERNEL[0], None, ())] + [Kind(name, "Object", ()) for name in KERNEL[1:]]
>>> kinds = kinds + [Kind("A", "Object", ("x", "y")), Kind("B", "A", ("z",))]
>>> [[change.name, change.new, change.origins] for change in plan_change(kinds, "A", "Object", ["y", "w", "x"])]
[['A', ('y', 'w', 'x'), (1, None, 0)], ['B', ('y', 'w', 'x', 'z'), (1, None, 0, 2)]]
"""

RESHAPING = """
>>> from saggar.kernel import define_class, define_global, new_image
>>> from saggar.reshaping import reshape
>>> from saggar.words import of_int
>>> image = new_image(4000, 400)
>>> define_class(image, "Point", "Object", ["x", "y"])
>>> define_global(image, "Home")
>>> point = image.space.new(image.class_named("Point"), 2)
>>> image.put(image.association("Home"), 1, 2 * point)
>>> image.put(2 * point, 0, of_int(7))
>>> reshape(image, "Point", "Object", ["z", "x"])
>>> [image.items(2 * point) == [0, of_int(7)], image.fields(image.class_named("Point"))]
[True, ['z', 'x']]
"""

FAULTS = """
>>> from saggar.faults import fault_of
>>> from saggar.images import loaded, saved
>>> from saggar.kernel import new_image
>>> numbers = saved(new_image(1000, 100))
>>> numbers[:10]
[1000, 100, 15, 6, 79, 98, 106, 101, 99, 116]
>>> [saved(loaded(numbers)) == numbers, fault_of(loaded(numbers))]
[True, None]
>>> loaded(numbers[:-1])
raises BadImage("numbers")
"""

WORLDS = """
>>> from saggar.worlds import run_script
>>> commands = [("class", "Counter", "Object", ("n",)), ("method", "Counter", "bump n isNil ifTrue: [n := 0]. n := n + 1. self yield. ^ n")]
>>> commands = commands + [("start", "f | c | c := Counter new. c bump show. c bump show"), ("run", (), 25), ("reload",)]
>>> commands = commands + [("reshape", "Counter", "Object", ("log", "n")), ("run", (), 1000)]
>>> run_script(8000, 2000, commands)
([('ok',), ('ok',), ('started', 1), ('weary',), ('ok',), ('ok',), ('done',)], [('show', 1, ('int', 1)), ('show', 1, ('int', 2)), ('end', 1, ('value', ('nil',)))])
"""

INSPECTING = """
>>> from saggar.inspecting import garbage, owners, paths, retained, retained_words, word_at
>>> from saggar.spaces import Space
>>> space = Space(100, 50)
>>> [space.new(0, 0), space.new(0, 2), space.new(0, 1), space.new(0, 0), space.new(1, 0)]
[0, 1, 2, 3, 4]
>>> space.set_root(7, 2)
>>> space.store.put(1, 0, 4)
>>> space.store.put(1, 1, 6)
>>> space.store.put(2, 0, 6)
>>> found = paths(space)
>>> [found[0], found[1], found[2], found[3], word_at(space, (8, 1, 1)), word_at(space, (8, 3))]
[(0,), (8,), (8, 1), (8, 2), 6, None]
>>> [garbage(space), retained(space, ("slot", 1, 0)), retained(space, ("root", 7))]
[[4], [2], [1, 2, 3]]
>>> own = owners(space)
>>> [own[0], own[1], own[2], own[3], retained_words(space)[1]]
[None, None, 1, 1, 12]
"""

COMPARING = """
>>> from saggar.comparing import compare, judge
>>> from saggar.spaces import Space
>>> one = Space(100, 50)
>>> other = Space(100, 50)
>>> [one.new(0, 0), one.new(0, 2), one.new(0, 0)]
[0, 1, 2]
>>> [other.new(0, 0), other.new(0, 0), other.new(0, 2)]
[0, 1, 2]
>>> one.set_root(0, 2)
>>> other.set_root(0, 4)
>>> compare(one, other)
('alike', [(0, 0), (1, 2)])
>>> one.store.put(1, 1, 4)
>>> other.store.put(2, 0, 2)
>>> compare(one, other)
('same', (0,), (1, 1))
>>> [judge(one, other, ("size", (1,))), judge(one, other, ("same", (1, 1), (1, 2))), judge(one, other, ("same", (0,), (1, 2)))]
[False, False, True]
"""

HISTORY = """
>>> from saggar.history import History
>>> from saggar.kernel import define_global, new_image
>>> from saggar.methods import install
>>> from saggar.primitives import install_primitives
>>> from saggar.processes import spawn
>>> image = new_image(5000, 1000)
>>> install_primitives(image)
>>> define_global(image, "Sum")
>>> method = install(image, image.kernel("Undefined"), "go Sum := 1. Sum := Sum + 1. Sum show")
>>> process = spawn(image, method, 0, [])
>>> history = History(image, [], 4, ["Sum"])
>>> [history.advance(100), history.steps(), history.kept()]
[('done',), 13, [0, 4, 8, 12]]
>>> history.changes()
[(0, 0, 'Sum', ('nil',)), (2, 1, 'Sum', ('int', 1)), (7, 1, 'Sum', ('int', 2))]
>>> [history.value("Sum", 6), history.setter("Sum", 6), history.first_break([("Sum", ("nil",))]), history.at(11).trace]
[('int', 1), (2, 1), 2, [('show', 1, ('int', 2))]]
"""


class Examples(unittest.TestCase):
    def test_words(self):
        run_session(self, WORDS)

    def test_store(self):
        run_session(self, STORE)

    def test_collecting(self):
        run_session(self, COLLECTING)

    def test_spaces(self):
        run_session(self, SPACES)

    def test_symbols(self):
        run_session(self, SYMBOLS)

    def test_lexing(self):
        run_session(self, LEXING)

    def test_parsing(self):
        run_session(self, PARSING)

    def test_printing(self):
        run_session(self, PRINTING)

    def test_coding(self):
        run_session(self, CODING)

    def test_checking(self):
        run_session(self, CHECKING)

    def test_listing(self):
        run_session(self, LISTING)

    def test_kernel(self):
        run_session(self, KERNEL)

    def test_methods(self):
        run_session(self, METHODS)

    def test_running(self):
        run_session(self, RUNNING)

    def test_plan(self):
        run_session(self, PLAN)

    def test_reshaping(self):
        run_session(self, RESHAPING)

    def test_faults(self):
        run_session(self, FAULTS)

    def test_worlds(self):
        run_session(self, WORLDS)

    def test_inspecting(self):
        run_session(self, INSPECTING)

    def test_comparing(self):
        run_session(self, COMPARING)

    def test_history(self):
        run_session(self, HISTORY)


if __name__ == "__main__":
    unittest.main()
