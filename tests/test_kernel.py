"""Classes and globals: points 13.1 to 13.7."""

import unittest

from saggar.errors import BadClass, NoNumber, NoRoom, NoSymbol
from saggar.kernel import FALSE, KERNEL, TRUE, Image, define_class, define_global, new_image
from saggar.spaces import Space
from saggar.symbols import Symbols
from saggar.words import GREATEST, LEAST, of_int
from tests.images import check_want_of_numbers, check_want_of_room, check_want_of_symbols, picture, sizes_made, whole

NAMES = ("Object", "Class", "Undefined", "True", "False", "Integer", "Symbol", "Array", "Association", "Method", "Code",
         "Block", "Context", "Process", "Semaphore")


def points():
    """Returns an image with two classes below one another."""
    image = new_image(4000, 400)
    define_class(image, "Point", "Object", ["x", "y"])
    define_class(image, "Spot", "Point", ["colour"])
    return image


class NewImages(unittest.TestCase):
    def setUp(self):
        self.image = new_image(1000, 100)

    def test_attributes(self):
        for image in (self.image, Image(500, 50)):
            self.assertIsInstance(image.space, Space)
            self.assertIsInstance(image.symbols, Symbols)
            self.assertEqual([image.trace, type(image.trace), image.space.held()], [[], list, 0])
            self.assertIs(image.store(), image.space.store)
        self.assertEqual([self.image.store().room, self.image.store().entries], [1000, 100])
        self.assertEqual([Image(500, 50).store().room, Image(500, 50).store().entries], [500, 50])

    def test_names(self):
        self.assertEqual(KERNEL, NAMES)
        self.assertEqual([TRUE, FALSE], [2, 4])
        self.assertEqual(self.image.symbols.texts(), list(NAMES))
        self.assertEqual(self.image.symbols.most, 100000)

    def test_nil_true_and_false(self):
        image = self.image
        for number, name in enumerate(["Undefined", "True", "False"]):
            self.assertTrue(image.store().exists(number))
            self.assertEqual(image.store().size(number), 0)
            self.assertEqual(image.store().kind(number), image.kernel(name))
            kinds = [image.store().kind(other) for other in image.store().numbers()]
            self.assertEqual(kinds.count(image.kernel(name)), 1)

    def test_roots(self):
        image, space = self.image, self.image.space
        self.assertEqual(image.class_of(space.root(0)), image.kernel("Array"))
        self.assertEqual(image.items(space.root(0)), [image.kernel(name) for name in NAMES])
        self.assertEqual(image.class_of(space.root(1)), image.kernel("Array"))
        self.assertEqual(image.items(space.root(1)), [image.association(name) for name in NAMES])
        self.assertEqual([space.root(k) for k in range(2, 16)], [0, 0, 0, of_int(1), 2, 4] + [0] * 8)

    def test_kernel_classes(self):
        image = self.image
        for name in NAMES:
            word = image.kernel(name)
            self.assertEqual(image.store().size(word // 2), 5)
            self.assertEqual(image.class_of(word), image.kernel("Class"))
            self.assertEqual(image.get(word, 0), image.symbol(name))
            self.assertEqual(image.get(word, 1), 0 if name == "Object" else image.kernel("Object"))
            for at in (2, 3):
                self.assertEqual(image.class_of(image.get(word, at)), image.kernel("Array"))
                self.assertEqual(image.items(image.get(word, at)), [])
            self.assertEqual(image.get(word, 4), of_int(0))
        self.assertEqual(len(set(image.kernel(name) for name in NAMES)), 15)

    def test_inner_arrays_are_different(self):
        image = self.image
        arrays = [image.get(image.kernel(name), at) for name in NAMES for at in (2, 3)]
        self.assertEqual(len(set(arrays + [image.space.root(0), image.space.root(1)])), 32)

    def test_globals(self):
        image = self.image
        self.assertEqual(image.global_names(), list(NAMES))
        self.assertEqual(image.class_words(), [image.kernel(name) for name in NAMES])
        for name in NAMES:
            word = image.association(name)
            self.assertEqual(image.class_of(word), image.kernel("Association"))
            self.assertEqual(image.items(word), [image.symbol(name), image.kernel(name)])
            self.assertEqual(image.class_named(name), image.kernel(name))

    def test_nothing_else_is_there(self):
        self.assertEqual(len(self.image.store().numbers()), 3 + 15 * 4 + 2)
        self.assertEqual(self.image.space.collect(), 0)
        self.assertEqual([self.image.space.held(), self.image.space.always], [0, False])
        self.assertEqual(self.image.space.root(5), 5)


class Words(unittest.TestCase):
    def test_symbols(self):
        image = new_image(1000, 100)
        word = image.symbol("at:put:")
        self.assertEqual([word, image.text(word), image.symbol("at:put:")], [4 * 15 + 3, "at:put:", word])
        self.assertEqual([image.symbols.count(), image.text(image.symbol("a b\n"))], [16, "a b\n"])

    def test_class_of(self):
        image = points()
        for number in (LEAST, -1, 0, 1, GREATEST):
            self.assertEqual(image.class_of(of_int(number)), image.kernel("Integer"))
        self.assertEqual(image.class_of(image.symbol("Point")), image.kernel("Symbol"))
        self.assertEqual(image.class_of(image.symbol("new text")), image.kernel("Symbol"))
        self.assertEqual([image.class_of(word) for word in (0, 2, 4)],
                         [image.kernel(name) for name in ("Undefined", "True", "False")])
        point = image.class_named("Point")
        self.assertEqual(image.class_of(2 * image.space.new(point, 2)), point)
        self.assertEqual(image.class_of(point), image.kernel("Class"))

    def test_slots(self):
        image = new_image(1000, 100)
        word = image.new("Array", 3)
        self.assertEqual(image.items(word), [0, 0, 0])
        self.assertIsNone(image.put(word, 1, of_int(7)))
        self.assertEqual([image.get(word, 0), image.get(word, 1), image.items(word)], [0, 29, [0, 29, 0]])
        image.items(word).append(5)
        self.assertEqual([image.store().slots(word // 2), image.store().get(word // 2, 1)], [[0, 29, 0], 29])

    def test_new_objects(self):
        image = new_image(1000, 100)
        for name, size in [("Array", 0), ("Semaphore", 3), ("Object", 0), ("Code", 2)]:
            word = image.new(name, size)
            self.assertEqual([image.class_of(word), image.items(word)], [image.kernel(name), [0] * size])
        words = [0, 5, image.symbol("a")]
        word = image.array(words)
        self.assertEqual([image.class_of(word), image.items(word), words], [image.kernel("Array"), words, [0, 5, words[2]]])
        self.assertEqual(image.items(image.array([])), [])
        word = image.array_of("Association", words[:2])
        self.assertEqual([image.class_of(word), image.items(word)], [image.kernel("Association"), words[:2]])
        self.assertEqual(image.space.held(), 0)

    def test_new_objects_while_the_space_collects(self):
        image = new_image(1000, 100)
        image.space.press([], always=True)
        inner = image.space.hold(image.array([of_int(7)]))
        image.space.set_root(9, image.array([inner, of_int(8)]))
        image.space.collect()
        row = image.items(image.space.root(9))
        self.assertEqual([image.items(row[0]), row[1]], [[of_int(7)], of_int(8)])

    def test_no_room_for_objects(self):
        image = new_image(1000, 100)
        left = 1000 - image.store().used()
        with self.assertRaises(NoRoom) as caught:
            image.array([0] * (left - 2))
        self.assertEqual(caught.exception.need, left + 1)
        self.assertEqual(len(image.items(image.array([0] * (left - 3)))), left - 3)


class Classes(unittest.TestCase):
    def test_slots(self):
        image = points()
        point, spot = image.class_named("Point"), image.class_named("Spot")
        for word, name, above, own, count in [(point, "Point", image.kernel("Object"), ["x", "y"], 2),
                                              (spot, "Spot", point, ["colour"], 3)]:
            self.assertEqual(image.class_of(word), image.kernel("Class"))
            row = image.items(word)
            self.assertEqual([len(row), row[0], row[1], row[4]], [5, image.symbol(name), above, of_int(count)])
            self.assertEqual(image.items(row[2]), [image.symbol(field) for field in own])
            self.assertEqual([image.items(row[3]), row[2] != row[3]], [[], True])
            self.assertEqual([image.class_of(row[2]), image.class_of(row[3])], [image.kernel("Array")] * 2)

    def test_globals(self):
        image = points()
        self.assertEqual(image.global_names(), list(NAMES) + ["Point", "Spot"])
        for name in ("Point", "Spot"):
            association = image.association(name)
            self.assertEqual(image.class_of(association), image.kernel("Association"))
            self.assertEqual(image.items(association), [image.symbol(name), image.class_named(name)])
        self.assertEqual(image.items(image.space.root(1))[15:], [image.association("Point"), image.association("Spot")])
        self.assertEqual(image.items(image.space.root(0)), [image.kernel(name) for name in NAMES])
        self.assertEqual(image.class_words()[15:], [image.class_named("Point"), image.class_named("Spot")])

    def test_fields(self):
        image = points()
        point, spot = image.class_named("Point"), image.class_named("Spot")
        self.assertEqual([image.class_name(point), image.class_name(spot)], ["Point", "Spot"])
        self.assertEqual([image.own_fields(point), image.own_fields(spot)], [["x", "y"], ["colour"]])
        self.assertEqual([image.fields(point), image.fields(spot)], [["x", "y"], ["x", "y", "colour"]])
        self.assertEqual([image.layout(point), image.layout(spot), image.layout(image.kernel("Array"))], [2, 3, 0])
        self.assertEqual([image.own_fields(image.kernel("Object")), image.fields(image.kernel("Array"))], [[], []])
        define_class(image, "Dot", "Spot", [])
        define_class(image, "Blot", "Dot", ["ink", "size"])
        self.assertEqual(image.fields(image.class_named("Dot")), ["x", "y", "colour"])
        self.assertEqual(image.fields(image.class_named("Blot")), ["x", "y", "colour", "ink", "size"])
        self.assertEqual([image.layout(image.class_named("Dot")), image.layout(image.class_named("Blot"))], [3, 5])

    def test_nothing_is_returned(self):
        image = points()
        self.assertIsNone(define_class(image, "A", "Object", []))
        self.assertIsNone(define_global(image, "B"))

    def test_the_list_is_not_modified(self):
        image = points()
        fields = ["a", "b"]
        define_class(image, "A", "Point", fields)
        self.assertEqual(fields, ["a", "b"])
        with self.assertRaises(BadClass):
            define_class(image, "B", "Point", fields + ["a"])
        self.assertEqual(fields, ["a", "b"])

    def test_is_class(self):
        image = points()
        for name in ("Object", "Class", "Point"):
            self.assertIs(image.is_class(image.class_named(name)), True)
        define_global(image, "Home")
        for word in (0, 2, 4, 5, image.symbol("Point"), image.association("Point"), image.space.root(0), 1, 3,
                     2 * image.space.new(image.class_named("Point"), 2)):
            self.assertIs(image.is_class(word), False)

    def test_is_below(self):
        image = points()
        define_class(image, "Other", "Object", [])
        words = [image.class_named(name) for name in ("Object", "Point", "Spot", "Other", "Array")]
        below = [[image.is_below(word, other) for other in words] for word in words]
        self.assertEqual(below, [
            [True, False, False, False, False],
            [True, True, False, False, False],
            [True, True, True, False, False],
            [True, False, False, True, False],
            [True, False, False, False, True],
        ])


class Globals(unittest.TestCase):
    def test_a_global(self):
        image = points()
        define_global(image, "Home")
        word = image.association("Home")
        self.assertEqual([image.class_of(word), image.items(word)], [image.kernel("Association"), [image.symbol("Home"), 0]])
        self.assertEqual([image.global_names()[15:], image.space.held()], [["Point", "Spot", "Home"], 0])
        self.assertEqual([image.class_named("Home"), len(image.class_words()), image.holds_class(word)], [None, 17, False])

    def test_unknown_names(self):
        image = points()
        known = image.symbols.texts()
        for name in ("Home", "x", "", "point", "Undefine"):
            self.assertIsNone(image.association(name))
            self.assertIsNone(image.class_named(name))
        self.assertEqual(image.symbols.texts(), known)

    def test_holds_class(self):
        image = points()
        for name in ("Object", "Spot"):
            self.assertIs(image.holds_class(image.association(name)), True)
        define_global(image, "Home")
        home = image.association("Home")
        for word in (image.class_named("Point"), of_int(3), image.symbol("Home"), image.association("Point"), 2):
            image.put(home, 1, word)
            self.assertIs(image.holds_class(home), False)
            self.assertIsNone(image.class_named("Home"))
        # An object whose first slot is the name is no class.
        image.put(home, 1, image.array([image.symbol("Home")] + [0] * 4))
        self.assertIs(image.holds_class(home), False)
        self.assertEqual(len(image.class_words()), 17)

    def test_the_order(self):
        image = points()
        define_global(image, "Home")
        define_class(image, "Zero", "Spot", [])
        define_global(image, "Alpha")
        define_class(image, "Last", "Object", [])
        self.assertEqual(image.global_names()[15:], ["Point", "Spot", "Home", "Zero", "Alpha", "Last"])
        self.assertEqual(image.class_words()[15:], [image.class_named(name) for name in ("Point", "Spot", "Zero", "Last")])


LONG = "A" + "b1" * 15 + "c"


class Refused(unittest.TestCase):
    def refuses(self, why, name, superclass="Object", fields=()):
        image = points()
        define_global(image, "Home")
        before = [whole(image), image.symbols.texts(), image.space.allocations]
        with self.assertRaises(BadClass) as caught:
            define_class(image, name, superclass, list(fields))
        self.assertEqual(caught.exception.why, why, (name, superclass, fields))
        if why == "name":
            with self.assertRaises(BadClass) as caught:
                define_global(image, name)
            self.assertEqual(caught.exception.why, "name")
        self.assertEqual([whole(image), image.symbols.texts(), image.space.allocations], before)

    def takes(self, name, superclass="Object", fields=()):
        image = points()
        define_class(image, name, superclass, list(fields))
        self.assertEqual(image.own_fields(image.class_named(name)), list(fields))

    def test_names(self):
        for name in ("", "a", "point", "1A", "A b", "A_b", "A:", "A-", "A.", " A", "A ", "A\n", "+", "nil", "self", LONG + "d"):
            self.refuses("name", name)
        for name in ("A", "Z", "Aa", "A1", "NIL", "Nil", "Self", LONG, "X" * 32):
            self.takes(name)
            image = points()
            define_global(image, name)
            self.assertEqual(image.global_names()[-1], name)
        self.assertEqual(len(LONG), 32)

    def test_names_that_are_taken(self):
        for name in ("Object", "Semaphore", "Point", "Spot", "Home"):
            self.refuses("name", name)

    def test_superclasses(self):
        for superclass in KERNEL[1:] + ("Nowhere", "Home", "", "x", "point", "A"):
            self.refuses("super", "A", superclass)
        for superclass in ("Object", "Point", "Spot"):
            self.takes("A", superclass)

    def test_fields(self):
        for field in ("", "X", "Xy", "1x", "x y", "x:", "x_y", "+", "nil", "true", "false", "self", "super", " x", "x\n", "x" * 33):
            self.refuses("field", "A", "Object", [field])
            self.refuses("field", "A", "Object", ["a", field])
        for field in ("x", "z", "x1", "xY", "nils", "selfish", "x" * 32, "class"):
            self.takes("A", "Object", [field])

    def test_fields_that_stand_twice(self):
        self.refuses("twice", "A", "Object", ["a", "a"])
        self.refuses("twice", "A", "Object", ["a", "b", "a"])
        self.refuses("twice", "A", "Point", ["x"])
        self.refuses("twice", "A", "Spot", ["a", "y"])
        self.refuses("twice", "A", "Spot", ["colour"])
        self.takes("A", "Point", ["colour"])
        self.takes("A", "Object", ["x", "y"])

    def test_many_fields(self):
        fields = ["f" + str(k) for k in range(40)]
        self.takes("A", "Object", fields[:32])
        self.refuses("many", "A", "Object", fields[:33])
        self.takes("A", "Spot", fields[:29])
        self.refuses("many", "A", "Spot", fields[:30])

    def test_the_order(self):
        many = ["f" + str(k) for k in range(33)]
        self.refuses("name", "a", "Nowhere", ["X", "a", "a"] + many)
        self.refuses("name", "Point", "Nowhere", ["X", "a", "a"] + many)
        self.refuses("super", "A", "Nowhere", ["X", "a", "a"] + many)
        self.refuses("super", "A", "Array", ["X", "a", "a"] + many)
        self.refuses("field", "A", "Object", ["X", "a", "a"] + many)
        self.refuses("twice", "A", "Object", ["a", "a", "X"] + many)
        self.refuses("field", "A", "Point", ["a", "X", "x"] + many)
        self.refuses("twice", "A", "Point", ["x", "X"] + many)
        self.refuses("field", "A", "Object", many + ["X"])
        self.refuses("twice", "A", "Object", many + ["f32"])
        self.refuses("twice", "A", "Point", many + ["y"])
        self.refuses("many", "A", "Object", many)


def define_blot(image):
    define_class(image, "Blot", "Spot", ["ink", "x2", "ink2"])


def define_home(image):
    define_global(image, "Home")


class Want(unittest.TestCase):
    def test_room(self):
        sizes = check_want_of_room(self, points, define_blot)
        self.assertEqual(sizes, [5, 3, 0, 2, 18])
        self.assertEqual(check_want_of_room(self, points, define_home), [2, 18])

    def test_numbers(self):
        check_want_of_numbers(self, points, define_blot)
        check_want_of_numbers(self, points, define_home)

    def test_symbols(self):
        check_want_of_symbols(self, points, define_blot, ["Blot", "ink", "x2", "ink2"])
        check_want_of_symbols(self, points, define_home, ["Home"])

    def test_the_order_of_new_symbols(self):
        image = points()
        image.symbol("b")
        image.symbol("Home")
        define_class(image, "A", "Object", ["z", "b", "y", "x", "colour", "w"])
        define_global(image, "Home")
        define_global(image, "Inn")
        self.assertEqual(image.symbols.texts()[15:],
                         ["Point", "x", "y", "Spot", "colour", "b", "Home", "A", "z", "w", "Inn"])

    def test_symbols_come_before_objects(self):
        image = points()
        image.store().room = image.store().used()
        image.symbols.most = image.symbols.count()
        for action in (define_blot, define_home):
            with self.assertRaises(NoSymbol):
                action(image)

    def test_a_definition_can_be_done_behind_an_error(self):
        image = points()
        image.space.collect()
        room = image.store().room
        image.store().room = image.store().used() + 30
        with self.assertRaises(NoRoom):
            define_blot(image)
        image.store().room = room
        define_blot(image)
        self.assertEqual(image.fields(image.class_named("Blot")), ["x", "y", "colour", "ink", "x2", "ink2"])

    def test_words_that_are_held(self):
        image = points()
        words = [image.space.hold(2 * image.space.new(0, 1)), image.space.hold(of_int(3))]
        define_blot(image)
        define_home(image)
        self.assertEqual(image.space.all_roots()[17:], words)
        image.store().room = image.store().used()
        image.space.collect()
        image.store().room = image.store().used()
        for name, action in [("Blot2", lambda: define_class(image, "Blot2", "Spot", [])), ("H2", lambda: define_global(image, "H2"))]:
            with self.assertRaises(NoRoom):
                action()
            self.assertEqual(image.space.all_roots()[17:], words)

    def test_a_full_table_of_numbers(self):
        image = new_image(1000, 100)
        while True:
            try:
                image.space.hold(2 * image.space.new(0, 0))
            except NoNumber:
                break
        before = picture(image)
        with self.assertRaises(NoNumber) as caught:
            define_class(image, "A", "Object", [])
        self.assertEqual([caught.exception.limit, picture(image)], [100, before])


class Collections(unittest.TestCase):
    def build(self, always):
        image = new_image(4000, 400)
        image.space.press([], always=always)
        define_class(image, "Point", "Object", ["x", "y"])
        image.array([1, 5])
        define_global(image, "Home")
        image.put(image.association("Home"), 1, 2 * image.space.new(image.class_named("Point"), 2))
        define_class(image, "Spot", "Point", ["colour"])
        image.new("Array", 7)
        define_class(image, "Other", "Object", ["x"])
        return image

    def test_they_change_nothing(self):
        plain, pressed = self.build(False), self.build(True)
        self.assertEqual(picture(plain), picture(pressed))
        self.assertEqual(plain.symbols.texts(), pressed.symbols.texts())
        self.assertEqual(pressed.fields(pressed.class_named("Spot")), ["x", "y", "colour"])
        self.assertGreater(pressed.space.collections, 10)

    def test_old_arrays_are_let_go(self):
        image = self.build(False)
        image.space.collect()
        self.assertEqual(len(image.store().numbers()), 3 + 15 * 4 + 2 + 3 * 4 + 1 + 1)

    def test_a_definition_makes_five_objects(self):
        self.assertEqual(sizes_made(points(), lambda image: define_class(image, "A", "Point", ["a"])), [5, 1, 0, 2, 18])


if __name__ == "__main__":
    unittest.main()
