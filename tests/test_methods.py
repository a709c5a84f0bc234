"""Methods: points 14.1 to 14.4."""

import random
import unittest
from unittest import mock

from saggar.coding import compile_method
from saggar.errors import BadCode, BadMethod, Fixed, Malformed, NoRoom, NoSymbol, Oversized, Twice, Unknown
from saggar.kernel import define_class, define_global, new_image
from saggar.listing import instruction_of, number_of
from saggar.lookup import lookup, own_method, put_method, selectors
from saggar.methods import install, source_of
from saggar.parsing import parse_method
from saggar.printing import print_method
from saggar.words import int_of, of_int
from tests.growing import grow_method
from tests.images import check_want_of_numbers, check_want_of_room, check_want_of_symbols, picture, whole

LONG = "at: k put: v | t | t := [:a | x := a + k. Home foo: #two foo: 3]. ^t value: 3 + -7"


def points():
    image = new_image(8000, 800)
    define_class(image, "Point", "Object", ["x", "y"])
    define_class(image, "Spot", "Point", ["colour"])
    define_global(image, "Home")
    return image


def installed(image, name, source):
    return install(image, image.class_named(name), source)


def drafted(image, name, source):
    """Returns the draft that a method in a class is made of."""
    return compile_method(parse_method(source), image.fields(image.class_named(name)), image.global_names())


class Slots(unittest.TestCase):
    def setUp(self):
        self.image = points()

    def told(self, literal):
        """Returns a literal as it looks in a draft, from its word."""
        kind, rest = literal[0], literal[1:]
        if kind == "int":
            return of_int(rest[0])
        if kind == "global":
            return self.image.association(rest[0])
        return self.image.symbol(rest[0])

    def check(self, name, source):
        image = self.image
        draft = drafted(image, name, source)
        method = installed(image, name, source)
        self.assertEqual(image.class_of(method), image.kernel("Method"))
        row = image.items(method)
        self.assertEqual(len(row), 8)
        self.assertEqual(row[:3], [image.symbol(draft.selector), image.class_named(name), image.symbol(source)])
        self.assertEqual([image.class_of(row[3]), image.class_of(row[4])], [image.kernel("Code"), image.kernel("Array")])
        self.assertEqual([instruction_of(int_of(word)) for word in image.items(row[3])], draft.code)
        self.assertEqual(image.items(row[3]), [of_int(number_of(op, arg)) for op, arg in draft.code])
        self.assertEqual(len(image.items(row[4])), len(draft.literals))
        for word, literal in zip(image.items(row[4]), draft.literals):
            if literal[0] == "block":
                self.assertEqual(image.class_of(word), image.kernel("Array"))
                self.assertEqual(image.items(word), [of_int(number) for number in literal[1:]])
            else:
                self.assertEqual(word, self.told(literal))
        self.assertEqual(row[5:], [of_int(draft.argc), of_int(draft.locals), of_int(draft.stack)])
        self.assertEqual([source_of(image, method), image.space.held()], [source, 0])
        return method

    def test_small_ones(self):
        self.check("Point", "f")
        self.check("Point", "x ^ x")
        self.check("Spot", "+ other ^colour + y")
        self.check("Object", 'f "a comment" ^ #sym  ')

    def test_each_kind_of_literal(self):
        method = self.check("Spot", LONG)
        self.assertEqual([int_of(self.image.get(method, at)) for at in (5, 6, 7)], [2, 3, 3])
        self.check("Spot", "f ^[[:a | a] value: 268435455] foo: '' bar: Spot")

    def test_a_global_is_its_association(self):
        method = self.check("Point", "f ^Home := Spot")
        row = self.image.items(self.image.get(method, 4))
        self.assertEqual(row, [self.image.association("Spot"), self.image.association("Home")])

    def test_random_ones(self):
        image = self.image
        for name in ("Total", "X1"):
            define_global(image, name)
        define_class(image, "Grown", "Object", ["a", "b", "c"])
        image.store().room, image.store().entries = 900000, 90000
        for seed in range(120):
            tree = grow_method(random.Random(seed), ["a", "b", "c", "Total", "X1"])
            self.check("Grown", print_method(tree))

    def test_sources_stay_as_they_are(self):
        source = 'f "a  comment"\n  ^  self'
        method = self.check("Point", source)
        self.assertEqual(source_of(self.image, method), source)
        longest = "f ^#a" + " " * 3995
        self.assertEqual(len(self.image.text(self.image.get(self.check("Point", longest), 2))), 4000)

    def test_blocks_have_arrays_of_their_own(self):
        method = self.check("Point", "f ^[3] foo: [3]")
        row = self.image.items(self.image.get(method, 4))
        other = self.check("Point", "g ^[3]")
        blocks = [word for word in row if word % 2 == 0] + [self.image.get(self.image.get(other, 4), 0)]
        self.assertEqual(len(set(blocks)), 3)


class Installing(unittest.TestCase):
    def setUp(self):
        self.image = points()
        self.point = self.image.class_named("Point")

    def test_adding_behind_the_others(self):
        image, point = self.image, self.point
        methods = [installed(image, "Point", source) for source in ("b", "a: k ^k", "+ k ^x")]
        self.assertEqual(selectors(image, point), ["b", "a:", "+"])
        self.assertEqual(image.items(image.get(point, 3))[1::2], methods)
        for text, method in zip(["b", "a:", "+"], methods):
            self.assertEqual(own_method(image, point, image.symbol(text)), method)

    def test_replacing_in_place(self):
        image, point = self.image, self.point
        methods = [installed(image, "Point", source) for source in ("a", "b", "c")]
        table = image.get(point, 3)
        methods[1] = installed(image, "Point", "b ^x")
        self.assertEqual(selectors(image, point), ["a", "b", "c"])
        self.assertEqual([image.get(point, 3), image.items(table)[1::2]], [table, methods])
        methods[0] = installed(image, "Point", "a ^y")
        self.assertEqual(image.items(table)[1::2], methods)

    def test_the_same_source_again(self):
        image, point = self.image, self.point
        one = image.space.hold(installed(image, "Point", "a ^x"))
        other = installed(image, "Point", "a ^x")
        self.assertNotEqual(one, other)
        self.assertEqual([own_method(image, point, image.symbol("a")), selectors(image, point)], [other, ["a"]])

    def test_primitives_in_the_place_of_methods(self):
        image = self.image
        array = image.kernel("Array")
        put_method(image, array, image.symbol("size"), of_int(19))
        self.assertEqual(lookup(image, array, image.symbol("size")), of_int(19))
        method = installed(image, "Array", "size ^7")
        self.assertEqual([lookup(image, array, image.symbol("size")), selectors(image, array)], [method, ["size"]])
        put_method(image, array, image.symbol("size"), of_int(19))
        self.assertEqual(lookup(image, array, image.symbol("size")), of_int(19))

    def test_looking_up(self):
        image = self.image
        spot = image.class_named("Spot")
        above = installed(image, "Point", "a ^1")
        self.assertEqual(lookup(image, spot, image.symbol("a")), above)
        below = installed(image, "Spot", "a ^2")
        self.assertEqual([lookup(image, spot, image.symbol("a")), lookup(image, self.point, image.symbol("a"))], [below, above])

    def test_fields_of_superclasses(self):
        image = self.image
        code = image.items(image.get(installed(image, "Spot", "f x. y. colour. ^Home"), 3))
        pairs = [instruction_of(int_of(word)) for word in code]
        self.assertEqual([pair for pair in pairs if pair[0] in ("field", "global")],
                         [("field", 0), ("field", 1), ("field", 2), ("global", 0)])

    def test_collections_change_nothing(self):
        pictures = []
        for always in (False, True):
            image = points()
            image.space.press([], always=always)
            for name, source in [("Point", LONG), ("Spot", "f ^[[colour]]"), ("Point", "g ^y"), ("Point", LONG), ("Spot", "f")]:
                installed(image, name, source)
            pictures.append([picture(image), image.symbols.texts()])
        self.assertEqual(pictures[0], pictures[1])

    def test_what_is_replaced_is_let_go(self):
        image = self.image
        installed(image, "Point", LONG)
        words = image.space.live_words()
        for _ in range(3):
            installed(image, "Point", LONG)
        self.assertEqual(image.space.live_words(), words)


class Refused(unittest.TestCase):
    def refuses(self, source, selector, kind, *values, name="Point"):
        image = points()
        installed(image, "Point", "z")
        before = [whole(image), image.symbols.texts(), image.space.allocations]
        with self.assertRaises(BadMethod) as caught:
            installed(image, name, source)
        error = caught.exception
        self.assertEqual([error.owner, error.selector, type(error.error)], [name, selector, kind], source)
        self.assertEqual(tuple(vars(error.error).values()), values, source)
        self.assertEqual([whole(image), image.symbols.texts(), image.space.allocations], before)

    def test_errors_of_parsing(self):
        self.refuses("f ^", "", Malformed, 3)
        self.refuses("", "", Malformed, 0)
        self.refuses("f { }", "", Malformed, 2)
        self.refuses("f 12a", "", Malformed, 2, name="Spot")
        self.refuses("f" + " " * 4000, "", Oversized, "source")
        self.refuses("f " + "(" * 21, "", Oversized, "depth")
        self.refuses("a: a " * 16, "", Oversized, "arguments")
        self.refuses("f ^1" + " foo" * 40, "", Oversized, "levels")

    def test_errors_of_compiling(self):
        self.refuses("f ^nowhere", "f", Unknown, "nowhere", 3)
        self.refuses("at: k ^colour", "at:", Unknown, "colour", 7)
        self.refuses("f ^Nowhere", "f", Unknown, "Nowhere", 3)
        self.refuses("+ k k := 3", "+", Fixed, "k", 4)
        self.refuses("a: k b: k", "a:b:", Twice, "k", 8, name="Spot")
        self.refuses("f | " + " ".join("t" + str(k) for k in range(256)) + " |", "f", Oversized, "locals", name="Object")

    def test_faults_that_checking_finds(self):
        # No draft of compile_method has one, so a wrong one is put in its place.
        def wrong(tree, fields, names):
            draft = compile_method(tree, fields, names)
            if tree[1] == "f:":
                draft.code = draft.code[:-1]
            return draft

        with mock.patch("saggar.methods.compile_method", wrong):
            self.refuses("f: k ^k", "f:", BadCode, "end", 1)

    def test_checking_is_told_the_number_of_the_fields(self):
        image = points()
        told = []
        with mock.patch("saggar.methods.check_code", lambda draft, fields: told.append(fields)):
            for name in ("Object", "Point", "Spot"):
                installed(image, name, "f")
        self.assertEqual(told, [0, 2, 3])

    def test_a_bad_method_for_a_selector_that_there_is(self):
        image = points()
        method = installed(image, "Point", "f ^x")
        with self.assertRaises(BadMethod):
            installed(image, "Point", "f ^z")
        self.assertEqual(own_method(image, image.class_named("Point"), image.symbol("f")), method)


def install_long(image):
    installed(image, "Point", LONG)


def replace_long(image):
    installed(image, "Point", "at: a put: b ^[a foo: #at: bar: 3]")


def with_long():
    image = points()
    install_long(image)
    return image


class Want(unittest.TestCase):
    def test_room(self):
        draft = drafted(points(), "Point", LONG)
        sizes = check_want_of_room(self, points, install_long)
        self.assertEqual(sorted(sizes), sorted([len(draft.code), len(draft.literals), 4, 8, 2]))
        self.assertEqual(sizes[-1], 2)
        sizes = check_want_of_room(self, with_long, replace_long)
        # A method that is replaced needs no new Array of methods.
        self.assertEqual(len(sizes), 4)
        self.assertEqual(sizes[-1], 8)

    def test_numbers(self):
        check_want_of_numbers(self, points, install_long)
        check_want_of_numbers(self, with_long, replace_long)

    def test_symbols(self):
        known = drafted(points(), "Point", LONG).literals
        texts = ["at:put:", LONG] + [text for kind, text, *_ in known if kind in ("symbol", "selector")]
        self.assertEqual(len(set(texts)), len(texts))
        check_want_of_symbols(self, points, install_long, texts)
        check_want_of_symbols(self, with_long, replace_long, ["at: a put: b ^[a foo: #at: bar: 3]", "at:", "foo:bar:"])

    def test_the_order_of_new_symbols(self):
        image = points()
        before = image.symbols.texts()
        image.symbol("b")
        installed(image, "Point", "f ^#c foo: #b bar: #f baz: Home")
        self.assertEqual(image.symbols.texts()[len(before):], ["b", "f", "f ^#c foo: #b bar: #f baz: Home", "c", "foo:bar:baz:"])
        image = points()
        installed(image, "Point", "f")
        self.assertEqual(image.symbols.texts()[len(before):], ["f"])

    def test_words_that_are_held(self):
        image = points()
        words = [image.space.hold(of_int(3)), image.space.hold(2 * image.space.new(0, 2))]
        install_long(image)
        self.assertEqual(image.space.all_roots()[17:], words)
        image.space.collect()
        used = image.store().used()
        for more in (0, 20, 40):
            image.store().room = used + more
            with self.assertRaises(NoRoom):
                installed(image, "Point", LONG)
            self.assertEqual(image.space.all_roots()[17:], words)

    def test_it_can_be_done_behind_an_error(self):
        image = points()
        image.space.collect()
        room, most = image.store().room, image.symbols.most
        image.store().room = image.store().used() + 20
        with self.assertRaises(NoRoom):
            install_long(image)
        image.store().room, image.symbols.most = room, image.symbols.count()
        with self.assertRaises(NoSymbol):
            installed(image, "Point", "new ^#new2")
        image.symbols.most = most
        install_long(image)
        self.assertEqual(selectors(image, image.class_named("Point")), ["at:put:"])

    def test_symbols_come_before_objects(self):
        image = points()
        image.space.collect()
        image.store().room = image.store().used()
        count = image.symbols.count()
        # The last one is that of a literal.
        for more in range(6):
            image.symbols.most = count + more
            with self.assertRaises(NoSymbol):
                install_long(image)
        image.symbols.most = count + 6
        with self.assertRaises(NoRoom):
            install_long(image)


if __name__ == "__main__":
    unittest.main()
