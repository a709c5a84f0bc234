"""Faults: points 21.5 and 21.6, with 18.8 behind them."""

import random
import unittest

from saggar.collecting import reached
from saggar.faults import fault_of
from saggar.kernel import KERNEL, define_class, define_global, new_image
from saggar.lookup import own_method
from saggar.methods import install
from saggar.primitives import PRIMITIVES
from saggar.processes import current, ready, running
from saggar.reshaping import reshape
from saggar.running import run_image
from saggar.words import GREATEST, LEAST, of_int
from tests.breaking import Breaking, watch
from tests.images import check_want_of_room
from tests.machines import instance, machine, started
from tests.test_programs import PROGRAMS, image_for
from tests.test_running import ENDS, point_machine
from tests.test_states import scene


class InOrder(unittest.TestCase):
    def test_new_images(self):
        for room, entries in ((1000, 100), (1000000, 100000)):
            self.assertIsNone(fault_of(new_image(room, entries)))
        self.assertIsNone(fault_of(machine()))

    def test_classes_and_globals(self):
        image = machine()
        define_class(image, "Point", "Object", ["x", "y"])
        define_class(image, "Spot", "Point", ["f" + str(k) for k in range(30)])
        define_global(image, "Home")
        image.put(image.association("Home"), 1, image.class_named("Spot"))
        self.assertIsNone(fault_of(image))

    def test_methods_in_kernel_classes(self):
        image = machine()
        for name in KERNEL:
            install(image, image.kernel(name), "+ other ^[:k | super = k]")
            self.assertIsNone(fault_of(image))
        install(image, image.kernel("Block"), "ensure: other ^1")
        self.assertIsNone(fault_of(image))

    def test_programs(self):
        for seed in range(2, 60, 20):
            program, choices = PROGRAMS[seed]
            watch(self, fault_of, image_for(program), choices, 60)

    def test_a_program_that_collects(self):
        program, choices = PROGRAMS[7]
        image = image_for(program)
        image.space.press([], always=True)
        watch(self, fault_of, image, choices, 60)

    def test_ends(self):
        for source, _ in ENDS:
            image = point_machine()
            started(image, "go " + source)
            watch(self, fault_of, image, limit=90)
            image.space.collect()
            self.assertIsNone(fault_of(image))

    def test_want_of_room(self):
        def build():
            image = machine()
            define_class(image, "Point", "Object", ["x"])
            image.space.hold(instance(image, "Point"))
            return image
        for action in (lambda image: define_class(image, "Other", "Object", ["a"]), lambda image: define_global(image, "Home"),
                       lambda image: install(image, image.class_named("Point"), "go ^[:k | #a:b: + k + x]"),
                       lambda image: reshape(image, "Point", "Object", ["y", "x"])):
            check_want_of_room(self, build, self.looked_at(action))

    def looked_at(self, action):
        """Returns an action behind which the image is looked at, also if it raises an error."""
        def looking(image):
            try:
                action(image)
            finally:
                self.assertIsNone(fault_of(image))
        return looking

    def test_nothing_changes(self):
        image = scene()
        before = [image.store().words[:], image.space.all_roots(), image.symbols.texts(), image.space.collections, image.trace[:]]
        fault_of(image)
        image.store().put(5, 0, of_int(7))
        fault_of(image)
        image.store().put(5, 0, before[0][before[0].index(5) + 3])
        self.assertEqual(before[2:], [image.symbols.texts(), image.space.collections, image.trace])


def subject():
    """Returns an image with classes, methods and processes, of which one runs."""
    image = scene()
    define_class(image, "Dot", "Spot", [])
    define_global(image, "Home")
    install(image, image.class_named("Spot"), "all: k ^[:e | x + colour + e + 3] value: k")
    install(image, image.class_named("Point"), "x ^x")
    image.put(image.association("Home"), 1, instance(image, "Dot"))
    image.space.collect()
    return image


class Case(Breaking, unittest.TestCase):
    def setUp(self):
        self.image, self.fault = subject(), fault_of
        self.assertIsNone(fault_of(self.image))

    def named(self, name):
        return self.image.class_named(name)

    def home(self):
        return self.image.get(self.image.association("Home"), 1)

    def array(self, words):
        """Returns an Array that is held."""
        return self.image.space.hold(self.image.array(words))


class Words(Case):
    def others(self):
        """Returns integers of each kind that are no words, or words of what there is not."""
        image = self.image
        free = image.store().numbers()[-1] + 1
        return [4 * (GREATEST + 1) + 1, 4 * (LEAST - 1) + 1, 4 * image.symbols.count() + 3, 4 * 99999 + 3, 4 * 100000 + 3, -1,
                2 * free, 2 * 99999, 2 * 100000, -2, -4, 10 ** 60, 10 ** 60 + 1, 10 ** 60 + 3, -10 ** 60]

    def test_roots(self):
        for k in range(16):
            self.breaks_root("words", k, *self.others())

    def test_slots_and_kinds(self):
        for word in (self.home(), self.named("Point"), current(self.image), self.image.space.root(0)):
            self.breaks("words", word, 0, *self.others())
            self.breaks_kind("words", word, *self.others())

    def test_objects_that_are_not_reached(self):
        word = self.image.array([0])
        for other in self.others():
            self.image.put(word, 0, other)
            self.assertEqual(fault_of(self.image), "words")
        self.image.space.collect()
        self.assertIsNone(fault_of(self.image))

    def test_held_words_are_not_asked(self):
        self.image.space.hold(2 * 99999)
        self.assertIsNone(fault_of(self.image))

    def test_words_at_the_edges(self):
        for other in (4 * GREATEST + 1, 4 * LEAST + 1, 4 * (self.image.symbols.count() - 1) + 3, 3, 0):
            self.image.put(self.home(), 0, other)
            self.assertIsNone(fault_of(self.image))

    def test_it_comes_first(self):
        word = self.image.array([0])
        self.image.space.set_root(0, 0)
        self.assertEqual(fault_of(self.image), "kernel")
        self.image.put(word, 0, -2)
        self.assertEqual(fault_of(self.image), "words")


class Kernel(Case):
    def test_the_root(self):
        image = self.image
        classes = image.items(image.space.root(0))
        self.breaks_root("kernel", 0, 0, 5, 2, image.symbol("x"), self.named("Point"), image.space.root(1), self.array(classes[:14]),
                         self.array(classes + [self.named("Point")]), self.array([]))
        # The remainders tell that these are no references.
        self.breaks_root("kernel", 0, image.space.root(0) + 1, image.space.root(0) + 5)
        copy = self.array(classes)
        image.space.set_root(0, copy)
        self.assertIsNone(fault_of(image))

    def test_the_classes(self):
        image = self.image
        root = image.space.root(0)
        for k in range(15):
            word = image.get(root, k)
            others = [other for other in (word + 1, word + 5) if other % 4 == 1 or other // 4 < image.symbols.count()]
            self.breaks("kernel", root, k, 0, 5, image.symbol("x"), image.get(root, (k + 1) % 15), self.home(), *others)

    def test_one_that_is_another_class(self):
        image = self.image
        root = image.space.root(0)
        # Only the objects of the first of these are asked by this rule.
        for name, why in (("Undefined", "kernel"), ("True", "kernel"), ("Array", "kernel"), ("Class", "kernel"),
                          ("Object", "classes"), ("Semaphore", "classes")):
            self.breaks(why, root, KERNEL.index(name), self.named("Point"))

    def test_their_class_and_size(self):
        image = self.image
        for name in ("Object", "Class", "Integer"):
            self.breaks_kind("kernel", image.kernel(name), image.kernel("Object"), self.named("Point"), 0, 5)
        number = image.space.new(image.kernel("Class"), 6)
        for at, word in enumerate(image.items(image.kernel("Code"))):
            image.store().put(number, at, word)
        self.breaks("kernel", image.space.root(0), KERNEL.index("Code"), 2 * number)

    def test_nil_true_and_false(self):
        image = self.image
        for word in (0, 2, 4):
            others = [image.kernel(name) for name in ("Undefined", "True", "False", "Object") if image.kernel(name) != image.class_of(word)]
            self.breaks_kind("kernel", word, *others)
        for name in ("Undefined", "True", "False"):
            self.breaks_kind("kernel", self.home(), image.kernel(name))
        image.store().exchange(1, self.home() // 2)
        self.assertEqual(fault_of(image), "kernel")

    def test_another_one_that_is_not_reached(self):
        self.image.space.new(self.image.kernel("Undefined"), 0)
        self.assertIsNone(fault_of(self.image))
        word = 2 * self.image.space.new(self.image.kernel("True"), 0)
        self.breaks("kernel", self.home(), 0, word)

    def test_one_that_is_missing(self):
        # Neither a root nor a slot refers to it, but it must be there.
        image = new_image(1000, 100)
        image.store().drop(2)
        self.assertEqual(fault_of(image), "words")
        image.space.set_root(7, 0)
        self.assertEqual(fault_of(image), "kernel")

    def test_one_that_has_a_slot(self):
        for number, name in enumerate(("Undefined", "True", "False")):
            image = new_image(1000, 100)
            image.store().exchange(number, image.space.new(image.kernel(name), 1))
            image.put(2 * number, 0, 0)
            image.space.collect()
            self.assertEqual(fault_of(image), "kernel")

    def test_the_roots_of_true_and_false(self):
        self.breaks_root("kernel", 6, 0, 4, 5, self.home())
        self.breaks_root("kernel", 7, 0, 2, 5, self.home())

    def test_the_roots_that_are_nil(self):
        for k in range(9, 16):
            self.breaks_root("kernel", k, 2, 5, self.home(), self.image.symbol("x"))


class Classes(Case):
    def test_the_class_of_an_object(self):
        image = self.image
        self.breaks_kind("classes", self.home(), 5, image.symbol("x"), 0, self.home(), image.space.root(0), image.kernel("Integer"),
                         image.kernel("Symbol"))

    def test_the_size_of_a_class(self):
        image = self.image
        for size in (4, 6):
            word = image.space.hold(2 * image.space.new(image.kernel("Class"), size))
            for at, other in enumerate(image.items(self.named("Dot"))[:size]):
                image.put(word, at, other)
            self.breaks("classes", self.home(), 0, word)

    def test_the_name(self):
        image = self.image
        names = ["point", "", "1A", "A b", "A" * 33, "A_", "A:", "+"]
        self.breaks("classes", self.named("Dot"), 0, 0, 5, self.home(), *[image.symbol(name) for name in names])
        self.breaks("globals", self.named("Dot"), 0, image.symbol("A" * 32), image.symbol("Point"))

    def test_the_superclass(self):
        image = self.image
        self.breaks("classes", self.named("Dot"), 1, 0, 5, image.symbol("Spot"), self.home(), 2, self.named("Dot"))
        self.breaks("classes", self.named("Point"), 1, self.named("Spot"), self.named("Dot"), self.named("Point"))
        self.breaks("classes", image.kernel("Object"), 1, image.kernel("Object"), self.named("Dot"), 5)
        for name in KERNEL[1:]:
            self.breaks("classes", self.named("Dot"), 1, image.kernel(name))

    def test_kernel_classes(self):
        image = self.image
        self.breaks("classes", image.kernel("Array"), 0, image.symbol("Other"), image.symbol("Code"))
        self.breaks("classes", image.kernel("Array"), 1, 0, self.named("Point"), image.kernel("Code"), image.kernel("Array"))
        self.breaks("classes", image.kernel("Array"), 2, self.array([image.symbol("x")]))
        self.breaks("classes", image.kernel("Array"), 4, of_int(1), 0)
        self.breaks("classes", image.kernel("Object"), 2, self.array([image.symbol("newest")]))

    def test_a_superclass_that_leads_to_object(self):
        # It has a class in the place of a superclass, but it is no class.
        image = self.image
        define_class(image, "Bare", "Object", [])
        looks = self.array(image.items(self.named("Bare")))
        self.breaks("classes", self.named("Bare"), 1, looks)
        for name in KERNEL[1:]:
            self.breaks("classes", self.named("Bare"), 1, image.kernel(name))

    def test_fields_of_a_kernel_class(self):
        # The number of fields is right.
        image = self.image
        for name in ("Array", "Association"):
            image.put(image.kernel(name), 4, of_int(1))
            image.put(image.kernel(name), 2, self.array([image.symbol("single")]))
            self.assertEqual(fault_of(image), "classes")
            image.put(image.kernel(name), 2, self.array([]))
            image.put(image.kernel(name), 4, of_int(0))
            self.assertIsNone(fault_of(image))

    def test_kernel_classes_in_another_order(self):
        image = self.image
        root = image.space.root(0)
        code, block = image.kernel("Code"), image.kernel("Block")
        image.put(root, KERNEL.index("Code"), block)
        image.put(root, KERNEL.index("Block"), code)
        self.assertEqual(fault_of(image), "classes")

    def test_the_name_of_a_kernel_class(self):
        for name in KERNEL:
            self.breaks("classes", self.named("Dot"), 0, self.image.symbol(name))

    def test_the_fields(self):
        image = self.image
        names = ["X", "nil", "self", "super", "", "a b", "x:", "a" * 33]
        rows = [[image.symbol(name)] for name in names] + [[5], [0], [image.symbol("x")], [image.symbol("colour")],
                                                           [image.symbol("a"), image.symbol("a")], [image.symbol("a"), 5]]
        dot = self.named("Dot")
        self.breaks("classes", dot, 2, 0, 5, self.home(), image.symbol("x"), image.kernel("Array"), *[self.array(row) for row in rows])
        self.breaks("classes", dot, 3, 0, 5, self.home(), image.symbol("x"), image.kernel("Array"))

    def test_fields_that_are_counted_right(self):
        image = self.image
        define_class(image, "Bare", "Object", [])
        bare = self.named("Bare")
        for row in (["a", "a"], ["a", "b", "a"], ["X"], ["a", "nil"]):
            image.put(bare, 4, of_int(len(row)))
            self.breaks_pair(bare, [image.symbol(name) for name in row])
        image.put(bare, 4, of_int(2))
        image.put(bare, 2, self.array([image.symbol("a"), image.symbol("b")]))
        self.assertIsNone(fault_of(image))
        # A field of the superclass counts, too.
        image.put(bare, 4, of_int(4))
        image.put(bare, 1, self.named("Point"))
        self.assertIsNone(fault_of(image))
        self.breaks_pair(bare, [image.symbol("a"), image.symbol("y")])

    def breaks_pair(self, word, row):
        """Looks at a class with other own fields."""
        before = self.image.get(word, 2)
        self.image.put(word, 2, self.array(row))
        self.assertEqual(fault_of(self.image), "classes", row)
        self.image.put(word, 2, before)

    def test_the_number_of_fields(self):
        image = self.image
        dot = self.named("Dot")
        self.breaks("classes", dot, 4, of_int(2), of_int(4), of_int(-3), 0, image.symbol("x"), self.home())
        many = [image.symbol("f" + str(k)) for k in range(30)]
        before = image.items(dot)
        for count in (29, 30):
            image.put(dot, 2, self.array(many[:count]))
            self.assertEqual(fault_of(image), "classes")
            image.put(dot, 4, of_int(3 + count))
            # The instance has other slots, but that is asked later.
            self.assertEqual(fault_of(image), "objects" if count == 29 else "classes")
            image.put(dot, 4, before[4])


class Objects(Case):
    def test_instances(self):
        image = self.image
        for size in (0, 2, 4):
            word = image.space.hold(2 * image.space.new(self.named("Dot"), size))
            self.breaks("objects", self.home(), 0, word)
        self.breaks_kind("objects", self.home(), self.named("Point"))
        self.breaks("objects", self.home(), 0, 2 * image.space.new(image.kernel("Object"), 1))

    def test_kernel_objects(self):
        image = self.image
        home = self.home()
        for name, count in (("Object", 0), ("Association", 2), ("Method", 8), ("Block", 2), ("Process", 5), ("Semaphore", 3),
                            ("Context", None)):
            for size in (0, 6) if count is None else (count - 1, count + 1, count + 20):
                if size >= 0:
                    image.put(home, 0, image.new(name, size))
                    self.assertEqual(fault_of(image), "objects", (name, size))
                    image.put(home, 0, 0)
                    image.space.collect()
                    self.assertIsNone(fault_of(image))

    def test_code(self):
        image = self.image
        code = image.get(own_method(image, self.named("Point"), image.symbol("x")), 3)
        self.breaks("objects", code, 0, 0, image.symbol("x"), self.home())
        self.breaks("objects", self.home(), 0, image.array_of("Code", [of_int(1), 0]))
        image.space.collect()
        image.put(self.home(), 0, image.array_of("Code", [of_int(-1), of_int(GREATEST)]))
        self.assertIsNone(fault_of(image))

    def test_those_that_are_not_reached(self):
        self.image.new("Association", 5)
        self.image.space.new(self.named("Dot"), 0)
        self.assertIsNone(fault_of(self.image))


class Globals(Case):
    def test_the_root(self):
        image = self.image
        row = image.items(image.space.root(1))
        self.breaks_root("globals", 1, 0, 5, image.symbol("x"), self.home(), self.named("Point"), image.space.root(0),
                         self.array([]), self.array(row[:14]), self.array(row[1:]), self.array([row[1], row[0]] + row[2:]),
                         self.array(row + [0]), self.array(row + [5]), self.array(row + [self.home()]), self.array(row + row[-1:]))

    def test_a_class_without_a_global(self):
        image = self.image
        row = image.items(image.space.root(1))
        at = image.global_names().index("Point")
        self.breaks_root("globals", 1, self.array(row[:at] + row[at + 1:]))
        self.breaks("globals", row[at], 1, 0, 5, self.named("Spot"), image.kernel("Array"))
        self.breaks("globals", row[3], 1, 0, self.named("Point"))

    def test_a_class_that_only_another_global_holds(self):
        image = self.image
        at = image.global_names().index("Dot")
        image.put(image.association("Home"), 1, 0)
        image.put(image.items(image.space.root(1))[at], 1, 0)
        # Nothing refers to the class any more.
        self.assertIsNone(fault_of(image))

    def test_names(self):
        image = self.image
        names = ["home", "", "1A", "A b", "Point", "Object", "A" * 33]
        self.breaks("globals", image.association("Home"), 0, 0, 5, self.home(), *[image.symbol(name) for name in names])
        self.breaks("globals", image.association("Array"), 0, image.symbol("Other"), image.symbol("Code"))
        self.breaks("globals", image.association("Point"), 0, image.symbol("Other"))

    def test_two_of_one_name(self):
        image = self.image
        row = image.items(image.space.root(1))
        for value in (0, 5):
            other = image.space.hold(image.array_of("Association", [image.symbol("Home"), value]))
            self.breaks_root("globals", 1, self.array(row + [other]))


class Methods(Case):
    def method(self, name="Spot", selector="all:"):
        return own_method(self.image, self.named(name), self.image.symbol(selector))

    def test_selector_and_source(self):
        image = self.image
        method = self.method()
        self.breaks("methods", method, 0, 0, 5, image.symbol("x"), image.symbol("all"), self.home())
        texts = ["all: k ^[:e | x + colour + e + 4] value: k", "all: k ^[:e | x + colour + e + 3] value: k ", "all: k ^", "",
                 "all: k ^[:e | x + nothing + e + 3] value: k", "x: k ^[:e | x + colour + e + 3] value: k"]
        for text in texts[:1] + texts[2:]:
            self.breaks("methods", method, 2, image.symbol(text))
        self.breaks("methods", method, 2, 0, 5, self.home())
        # Another source that makes the same code is as good.
        image.put(method, 2, image.symbol(texts[1]))
        self.assertIsNone(fault_of(image))

    def test_owner(self):
        image = self.image
        self.breaks("methods", self.method(), 1, 0, 5, self.home(), self.named("Point"), self.named("Dot"), image.kernel("Object"))

    def test_code(self):
        image = self.image
        method = self.method()
        code = image.items(image.get(method, 3))
        kinds = [image.array_of("Code", row) for row in (code[:-1], code + [of_int(0)], [], code[:1] + [of_int(3)] + code[2:])]
        for word in kinds:
            image.space.hold(word)
        self.breaks("methods", method, 3, 0, 5, self.home(), image.get(method, 4), image.get(self.method("Point", "x"), 3), *kinds)
        self.breaks("methods", method, 3, self.array(code))
        self.breaks("methods", image.get(method, 3), 1, of_int(0), of_int(-1), of_int(GREATEST), of_int(22 * 65536))

    def test_literals(self):
        image = self.image
        method = self.method()
        literals = image.get(method, 4)
        row = image.items(literals)
        self.breaks("methods", method, 4, 0, 5, image.get(method, 3), self.array(row[:-1]), self.array(row + [5]), self.array([]))
        for at, word in enumerate(row):
            self.breaks("methods", literals, at, 0, 2, of_int(4), image.symbol("x"), self.home())
            if word % 2 == 0:
                for k, number in enumerate(image.items(word)):
                    self.breaks("methods", word, k, number + 4, number - 4, 0, image.symbol("x"))
                numbers = image.items(word)
                self.breaks("methods", literals, at, self.array(numbers[:3]), self.array(numbers + [5]))

    def test_literals_that_are_no_arrays(self):
        # Objects of Code hold the same numbers.
        image = self.image
        method = install(image, self.named("Spot"), "a ^7")
        self.breaks("methods", method, 4, image.array_of("Code", [of_int(7)]))
        literals = image.get(self.method(), 4)
        row = image.items(literals)
        at = [k for k, word in enumerate(row) if word % 2 == 0][0]
        self.breaks("methods", literals, at, image.array_of("Code", image.items(row[at])))

    def test_a_global_among_the_literals(self):
        image = self.image
        method = install(image, self.named("Spot"), "home ^Home")
        literals = image.get(method, 4)
        other = image.space.hold(image.array_of("Association", [image.symbol("Home"), 0]))
        self.breaks("methods", literals, 0, 0, self.home(), image.association("Point"), image.symbol("Home"), other)

    def test_numbers(self):
        for at in (5, 6, 7):
            number = self.image.get(self.method(), at)
            self.breaks("methods", self.method(), at, number + 4, number - 4, 0, self.image.symbol("x"))

    def test_each_method_that_is_reached(self):
        # No class has it, but a slot refers to it.
        image = self.image
        method = image.space.hold(self.method())
        install(image, self.named("Spot"), "all: k ^k")
        image.put(self.home(), 0, method)
        image.space.drop(image.space.held())
        self.assertIsNone(fault_of(image))
        self.breaks("methods", method, 5, of_int(0))
        self.breaks("methods", method, 1, 0, 5, self.home(), image.kernel("Object"))
        image.put(self.home(), 0, 0)
        image.put(method, 5, of_int(0))
        self.assertIsNone(fault_of(image))

    def test_the_methods_of_a_class(self):
        image = self.image
        spot = self.named("Spot")
        row = image.items(image.get(spot, 3))
        selector, method = row[:2]
        other = [image.symbol("x"), self.method("Point", "x")]
        self.breaks("methods", spot, 3, *[self.array(words) for words in (
            [selector], [method], row + [image.symbol("y")], [5, method], [method, selector], [selector, 0], [selector, self.home()],
            [selector, of_int(1)], [selector, of_int(11)], row + row[:2], [image.symbol("x"), method], row + other)])
        for words in ([], row):
            image.put(spot, 3, self.array(words))
            self.assertIsNone(fault_of(image))

    def test_primitives(self):
        image = self.image
        table = {(name, selector): number for name, selector, number in PRIMITIVES}
        for name, selector in (("Integer", "+"), ("Object", "show"), ("Block", "value"), ("Semaphore", "wait"), ("Class", "new:")):
            methods = image.get(image.kernel(name), 3)
            at = image.items(methods).index(image.symbol(selector))
            number = table[name, selector]
            self.breaks("methods", methods, at + 1, of_int(number + 1), of_int(number - 1), of_int(0), of_int(-1), of_int(29), 0,
                        image.symbol("x"), self.home())
        # Another class, or the same class with another selector.
        for name, row in (("Array", [image.symbol("+"), of_int(1)]), ("Integer", [image.symbol("plus:"), of_int(1)]),
                          ("Spot", [image.symbol("show"), of_int(12)]), ("Undefined", [image.symbol("show"), of_int(12)])):
            self.breaks("methods", image.class_named(name), 3, self.array(row))
        image.put(image.kernel("Array"), 3, self.array([]))
        self.assertIsNone(fault_of(image))

    def test_the_root_of_ensure(self):
        image = self.image
        self.breaks_root("methods", 8, 2, 5, image.symbol("ensure:"), self.method(), image.kernel("Block"), self.home())
        other = install(image, image.kernel("Block"), "other ^1")
        self.breaks_root("methods", 8, other)
        source = "ensure: aBlock | result home | result := self value. aBlock value. ^self finish: result for: home"
        elsewhere = install(image, image.kernel("Object"), source)
        self.breaks_root("methods", 8, elsewhere)
        longer = install(image, image.kernel("Block"), source + " ")
        self.breaks_root("methods", 8, longer)
        # It need not be among the methods of Block, and may be nil.
        self.assertNotEqual(own_method(image, image.kernel("Block"), image.symbol("ensure:")), image.space.root(8))
        self.assertIsNone(fault_of(image))
        again = install(image, image.kernel("Block"), source)
        for word in (again, 0):
            image.space.set_root(8, word)
            self.assertIsNone(fault_of(image))


class Inner(Case):
    def inner(self):
        """Returns an inner Array of each kind, and globals."""
        image = self.image
        method = own_method(image, self.named("Spot"), image.symbol("all:"))
        literals = image.get(method, 4)
        descriptor = [word for word in image.items(literals) if word % 2 == 0][0]
        point = self.named("Point")
        return [image.space.root(0), image.space.root(1), image.get(point, 2), image.get(point, 3), literals, descriptor,
                image.association("Point"), image.association("Home")]

    def test_slots_that_a_program_can_see(self):
        image = self.image
        semaphore = image.get(image.association("Gate"), 1)
        array = self.array([0])
        image.put(self.home(), 1, array)
        association = image.space.hold(image.array_of("Association", [0, 0]))
        image.put(self.home(), 2, association)
        context = image.get(ready(image)[-1], 0)
        self.assertEqual(image.class_name(image.class_of(semaphore)), "Semaphore")
        for word in self.inner():
            self.breaks("inner", self.home(), 0, word)
            self.breaks("inner", array, 0, word)
            self.breaks("inner", association, 0, word)
            self.breaks("inner", association, 1, word)
            self.breaks("inner", image.association("Home"), 1, word)
            # The receiver, and the stack, which holds one word.
            self.breaks("inner", context, 4, word)
            self.breaks("inner", context, 7, word)

    def test_locals_and_receivers_of_blocks(self):
        image = self.image
        context = current(image)
        outer = image.get(context, 5)
        for word in self.inner():
            self.breaks("inner", outer, 7, word)
            self.breaks("inner", outer, 8, word)
            self.breaks("inner", image.get(outer, 5), 9, word)

    def test_results(self):
        image = self.image
        process = image.space.hold(image.array_of("Process", [0, 0, of_int(1), of_int(2), 0]))
        image.put(self.home(), 1, process)
        for word in self.inner():
            self.breaks("inner", process, 4, word)
        image.put(process, 4, self.home())
        self.assertIsNone(fault_of(image))

    def test_two_places(self):
        image = self.image
        point, spot = self.named("Point"), self.named("Spot")
        empty = image.get(self.named("Dot"), 3)
        self.assertEqual([image.items(empty), image.items(image.get(self.named("Dot"), 2))], [[], []])
        self.breaks("inner", self.named("Dot"), 2, empty, image.get(image.kernel("Array"), 2))
        self.breaks("inner", self.named("Dot"), 3, image.get(self.named("Dot"), 2), image.get(image.kernel("Array"), 2))
        methods = [own_method(image, point, image.symbol("x")), own_method(image, spot, image.symbol("all:"))]
        self.assertEqual(image.items(image.get(methods[0], 4)), [])
        self.breaks("inner", methods[0], 4, empty, image.get(image.kernel("Array"), 2))

    def test_literals_of_two_methods(self):
        image = self.image
        one = install(image, self.named("Point"), "a ^[1]")
        other = install(image, self.named("Point"), "b ^[1]")
        self.breaks("inner", other, 4, image.get(one, 4))
        block = image.items(image.get(one, 4))[0]
        self.breaks("inner", image.get(other, 4), 0, block)
        # Two blocks of one method that look alike are two.
        both = install(image, self.named("Point"), "c ^[nil] = [nil]")
        literals = image.get(both, 4)
        self.assertEqual(len(image.items(literals)), 3)

    def test_the_same_code_is_free(self):
        image = self.image
        one = install(image, self.named("Point"), "a ^1")
        other = install(image, self.named("Point"), "b ^1")
        image.put(other, 3, image.get(one, 3))
        self.assertIsNone(fault_of(image))
        # So are objects of other kinds in slots that a program can see.
        for word in (one, image.get(one, 3), current(image), running(image), self.named("Point"), 2):
            image.put(self.home(), 0, word)
            self.assertIsNone(fault_of(image))


class States(Case):
    def test_its_words(self):
        image = self.image
        semaphore = image.get(image.association("Gate"), 1)
        block = [2 * number for number in image.store().numbers() if image.store().kind(number) == image.kernel("Block")][0]
        self.breaks("block", block, 0, 0, 5)
        self.breaks("context", current(image), 0, 5, self.home())
        self.breaks("process", running(image), 3, 0, of_int(1))
        self.breaks("semaphore", semaphore, 0, 0, of_int(1))
        self.breaks("process", running(image), 2, 0, of_int(9))
        self.breaks_root("process", 3, 0, self.home())

    def test_objects_that_are_not_reached(self):
        for name, row, why in (("Block", [0, 0], "block"), ("Context", [0] * 7, "context"), ("Context", [], "context"),
                               ("Block", [], "block"), ("Semaphore", [0, 0, 0], "semaphore"), ("Semaphore", [0], "semaphore"),
                               ("Process", [0] * 5, "process"), ("Process", [], "process")):
            self.image.array_of(name, row)
            self.assertEqual(fault_of(self.image), why, name)
            self.image.space.collect()
            self.assertIsNone(fault_of(self.image))


class FirstRule(Case):
    def test_the_order(self):
        """All rules are broken at once, and mended from the first one on."""
        image = self.image
        home = self.home()
        point = self.named("Point")
        method = own_method(image, point, image.symbol("x"))
        mends = []

        def broken(word, at, other):
            before = image.get(word, at)
            image.put(word, at, other)
            mends.append(lambda: image.put(word, at, before))

        image.space.set_root(15, 5)
        broken(home, 1, -2)
        mends.append(lambda: image.space.set_root(15, 0))
        broken(point, 4, of_int(9))
        broken(home, 0, image.new("Association", 3))
        broken(image.association("Home"), 0, image.symbol("home"))
        broken(method, 5, of_int(9))
        broken(home, 2, image.space.root(1))
        broken(running(image), 3, of_int(1))
        found = []
        for mend in mends:
            found.append(fault_of(image))
            mend()
        self.assertEqual(found, ["words", "kernel", "classes", "objects", "globals", "methods", "inner", "process"])
        self.assertIsNone(fault_of(image))


class AtRandom(unittest.TestCase):
    """Whatever words stand in an image, one of the words is told, and nothing is raised."""

    KNOWN = ["words", "kernel", "classes", "objects", "globals", "methods", "inner", "block", "context", "process", "semaphore"]

    def test_disturbed_images(self):
        chance, seen = random.Random(4), {}
        for seed in (3, 4, 5):
            program, choices = PROGRAMS[seed]
            image = image_for(program)
            run_image(image, choices, 60 * seed)
            snapshot = image.store().snapshot()
            roots = [image.space.root(k) for k in range(16)]
            for _ in range(90):
                self.disturb(image, chance)
                found = fault_of(image)
                seen[found] = seen.get(found, 0) + 1
                image.store().restore(snapshot)
                for k, word in enumerate(roots):
                    image.space.set_root(k, word)
        self.assertLessEqual(set(seen), set(self.KNOWN + [None]))
        self.assertGreater(min(seen.get(why, 0) for why in self.KNOWN[:6] + ["process", None]), 5, seen)

    def disturb(self, image, chance):
        store = image.store()
        numbers = sorted(reached(store, image.space.all_roots()))
        kinds = sorted({store.kind(number) for number in numbers})
        for _ in range(chance.choice([1, 1, 2, 5])):
            # Each class is as likely, however many objects it has.
            kind = chance.choice(kinds)
            number = chance.choice([number for number in numbers if store.kind(number) == kind] or numbers)
            word = chance.choice([2 * chance.choice(numbers), 2 * chance.choice(numbers), of_int(chance.randrange(-2, 12)),
                                  4 * chance.randrange(image.symbols.count()) + 3, 0, chance.choice([-1, -2, 10 ** 9])])
            if chance.random() < 0.15:
                image.space.set_root(chance.randrange(9), word)
            elif chance.random() < 0.15:
                store.set_kind(number, word if chance.random() < 0.5 else chance.choice(kinds))
            elif store.size(number):
                store.put(number, chance.randrange(store.size(number)), word)


if __name__ == "__main__":
    unittest.main()
