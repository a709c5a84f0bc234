"""Reshaping: points 20.1 to 20.4, and point 10.7."""

import random
import unittest

from saggar.coding import compile_method
from saggar.collecting import reached
from saggar.errors import BadClass, BadMethod, NoNumber, NoRoom, NoSymbol, Unknown, Wrong
from saggar.faults import fault_of
from saggar.kernel import define_class, define_global
from saggar.lookup import lookup
from saggar.methods import code_words, install, source_of
from saggar.parsing import parse_method
from saggar.plan import Kind
from saggar.processes import ready, running
from saggar.reshaping import kinds_of, reshape
from saggar.running import run_image
from saggar.words import of_int
from tests.growing import grow_method
from tests.images import (check_want_of_numbers, check_want_of_room, check_want_of_symbols, close_up_numbers, picture,
                          sizes_made)
from tests.machines import instance, point_image, started
from tests.test_programs import PROGRAMS, image_for


def told(image):
    """Returns all that can be reached, word by word, the roots, what is held, and the symbols."""
    store = image.store()
    found = reached(store, image.space.all_roots())
    rows = {number: (store.kind(number), store.slots(number)) for number in found}
    return [rows, image.space.all_roots(), image.symbols.texts(), image.trace[:]]


def family():
    """Returns an image with classes, methods, and instances that are held: two points, a spot, another object."""
    image = point_image()
    define_class(image, "Dot", "Spot", [])
    define_class(image, "Other", "Object", ["x", "q"])
    for owner, source in (("Point", "x ^x"), ("Point", "x: k x := k"), ("Point", "sum ^x + y"), ("Spot", "colour ^colour"),
                          ("Spot", "all ^[:k | x + y + colour + k] value: 1"), ("Other", "x ^x"), ("Object", "q ^1")):
        install(image, image.class_named(owner), source)
    for name, row in (("Point", [1, 2]), ("Point", [3, 4]), ("Spot", [5, 6, 7]), ("Dot", [8, 9, 10]), ("Other", [11, 12])):
        word = image.space.hold(instance(image, name))
        for at, number in enumerate(row):
            image.put(word, at, of_int(number))
    return image


def things(image):
    """Returns the words that a family holds."""
    return image.space.all_roots()[17:]


def rows(image):
    return [[word // 4 if word else None for word in image.items(thing)] for thing in things(image)]


class Instances(unittest.TestCase):
    def test_words_and_numbers(self):
        image = family()
        before = things(image)
        reshape(image, "Point", "Object", ["y", "z", "x"])
        self.assertEqual(things(image), before)
        self.assertEqual(rows(image), [[2, None, 1], [4, None, 3], [6, None, 5, 7], [9, None, 8, 10], [11, 12]])
        self.assertEqual([image.class_name(image.class_of(word)) for word in before], ["Point", "Point", "Spot", "Dot", "Other"])
        self.assertIsNone(fault_of(image))

    def test_fewer_fields(self):
        image = family()
        image.put(image.class_named("Point"), 3, image.array([]))
        image.put(image.class_named("Spot"), 3, image.array([]))
        reshape(image, "Point", "Object", [])
        self.assertEqual(rows(image), [[], [], [7], [10], [11, 12]])
        reshape(image, "Point", "Object", ["x"])
        self.assertEqual(rows(image), [[None], [None], [None, 7], [None, 10], [11, 12]])

    def test_a_class_below(self):
        image = family()
        reshape(image, "Spot", "Point", ["a", "colour", "b"])
        self.assertEqual(rows(image), [[1, 2], [3, 4], [5, 6, None, 7, None], [8, 9, None, 10, None], [11, 12]])

    def test_another_superclass(self):
        image = family()
        image.put(image.class_named("Spot"), 3, image.array([]))
        reshape(image, "Spot", "Other", ["y", "colour"])
        self.assertEqual(rows(image), [[1, 2], [3, 4], [5, None, 6, 7], [8, None, 9, 10], [11, 12]])
        spot = image.class_named("Spot")
        self.assertEqual([image.fields(spot), image.layout(spot)], [["x", "q", "y", "colour"], 4])
        self.assertEqual(image.get(spot, 1), image.class_named("Other"))
        self.assertEqual([image.layout(image.class_named("Dot")), image.layout(image.class_named("Point"))], [4, 2])
        # Methods are looked up from the new superclass on.
        self.assertEqual(source_of(image, lookup(image, spot, image.symbol("x"))), "x ^x")
        self.assertEqual(lookup(image, spot, image.symbol("sum")), None)
        self.assertIsNone(fault_of(image))

    def test_fields_that_stay(self):
        image = family()
        before = picture(image)
        reshape(image, "Point", "Object", ["x", "y"])
        self.assertEqual(picture(image), before)

    def test_those_that_were_exchanged(self):
        image = family()
        point, _, spot, _, other = things(image)
        image.store().exchange(point // 2, other // 2)
        reshape(image, "Point", "Object", ["y", "x", "z"])
        self.assertEqual(rows(image), [[11, 12], [4, 3, None], [6, 5, None, 7], [9, 8, None, 10], [2, 1, None]])
        self.assertEqual(image.items(spot)[3], of_int(7))

    def test_references_among_them(self):
        image = family()
        one, two = things(image)[:2]
        image.put(one, 0, two)
        image.put(two, 1, one)
        image.put(two, 0, two)
        reshape(image, "Point", "Object", ["y", "x", "z"])
        self.assertEqual([image.items(one), image.items(two)], [[of_int(2), two, 0], [one, two, 0]])

    def test_the_slots_of_the_class(self):
        image = family()
        point = image.class_named("Point")
        before = image.items(point)
        reshape(image, "Point", "Object", ["y", "a", "x"])
        behind = image.items(point)
        self.assertEqual([behind[0], behind[1], behind[3], behind[4]], before[:2] + [before[3], of_int(3)])
        self.assertEqual(image.own_fields(point), ["y", "a", "x"])
        self.assertEqual(image.own_fields(image.class_named("Spot")), ["colour"])
        self.assertEqual([image.layout(image.class_named(name)) for name in ("Point", "Spot", "Dot", "Other")], [3, 4, 4, 2])
        self.assertEqual(image.class_named("Point"), point)


class Methods(unittest.TestCase):
    def check_methods(self, image):
        """Looks at the code of all methods."""
        for word in image.class_words():
            for method in image.items(image.get(word, 3))[1::2]:
                if method % 2 == 0:
                    tree = parse_method(source_of(image, method))
                    draft = compile_method(tree, image.fields(image.get(method, 1)), image.global_names())
                    self.assertEqual(image.items(image.get(method, 3)), code_words(draft))

    def test_compiled_anew(self):
        image = family()
        methods = {name: lookup(image, image.class_named("Spot"), image.symbol(name)) for name in ("x", "x:", "sum", "colour", "all")}
        code = {name: image.items(image.get(method, 3)) for name, method in methods.items()}
        slots = {name: image.items(method) for name, method in methods.items()}
        reshape(image, "Point", "Object", ["y", "z", "x"])
        for name, method in methods.items():
            self.assertEqual(lookup(image, image.class_named("Spot"), image.symbol(name)), method)
            self.assertEqual(len(image.items(image.get(method, 3))), len(code[name]))
            # Only the code is another one.
            self.assertEqual([word for at, word in enumerate(image.items(method)) if at != 3],
                             [word for at, word in enumerate(slots[name]) if at != 3])
        self.assertEqual(image.items(image.get(methods["x"], 3))[0], of_int(4 * 65536 + 2))
        self.assertEqual(image.items(image.get(methods["colour"], 3))[0], of_int(4 * 65536 + 3))
        self.check_methods(image)

    def test_other_methods_stay(self):
        image = family()
        method = lookup(image, image.class_named("Other"), image.symbol("x"))
        code = image.get(method, 3)
        reshape(image, "Point", "Object", ["y", "x"])
        self.assertEqual(image.get(method, 3), code)

    def test_one_that_no_class_has(self):
        # A block that is kept refers to it, and later a context.
        image = family()
        define_global(image, "Kept")
        point = image.class_named("Point")
        install(image, point, "keep Kept := [x show. y]")
        started(image, "go (Point new x: 3) keep")
        run_image(image, [], 1000)
        install(image, point, "keep ^nil")
        reshape(image, "Point", "Object", ["a", "y", "x"])
        self.assertIsNone(fault_of(image))
        started(image, "go ^Kept value")
        self.assertEqual(run_image(image, [], 1000), ("done",))
        self.assertEqual(image.trace[-2:], [("show", 2, ("int", 3)), ("end", 2, ("value", ("nil",)))])

    def test_one_that_only_a_context_has(self):
        image = family()
        point = image.class_named("Point")
        install(image, point, "slow nil yield. ^x + y")
        started(image, "go | p | p := Point new. p x: 3. ^p slow")
        run_image(image, [], 1)
        while running(image) != 0:
            run_image(image, [], 1)
        self.assertEqual(image.trace, [])
        install(image, point, "slow ^#other")
        reshape(image, "Point", "Object", ["y", "x"])
        self.assertIsNone(fault_of(image))
        run_image(image, [], 1000)
        self.assertEqual(image.trace, [("end", 1, ("error", "integer"))])

    def test_one_that_nothing_refers_to(self):
        # It cannot be compiled any more, but it is freed before.
        image = family()
        point = image.class_named("Point")
        install(image, point, "sum ^3")
        install(image, image.class_named("Spot"), "all ^3")
        reshape(image, "Point", "Object", ["x"])
        self.assertEqual(rows(image)[0], [1])


class GoingOn(unittest.TestCase):
    """Contexts and blocks go on at the same places, whenever a class is reshaped."""

    PLANS = [("Point", "Object", ["y", "n", "x"]), ("Spot", "Point", ["m", "colour"]), ("Other", "Object", ["c", "b", "a", "x"]),
             ("Point", "Object", ["x", "y"]), ("Other", "Point", ["a", "b", "c"])]

    def test_at_each_step(self):
        source = "go | p b | p := Spot new. p x: 3. b := p later. p y: 4. p count. b value show. ^p sum + b value"
        methods = ["x: k x := k", "y: k y := k", "later ^[x := x + 1. nil yield. x]", "sum ^x + y",
                   "count | k | k := 0. [k < 3] whileTrue: [k := k + 1. y := y + k. nil yield]"]

        def build():
            image = point_image()
            for text in methods:
                install(image, image.class_named("Point"), text)
            started(image, source)
            started(image, source)
            return image
        plain = build()
        self.assertEqual(run_image(plain, [], 10000), ("done",))
        self.assertEqual(plain.trace[-1][2], ("value", ("int", 19)))
        count = 0
        while True:
            image = build()
            if run_image(image, [], count) == ("done",):
                break
            reshape(image, *self.PLANS[0])
            run_image(image, [], 3)
            reshape(image, *self.PLANS[1])
            self.assertIsNone(fault_of(image))
            run_image(image, [], 10000)
            self.assertEqual(image.trace, plain.trace, count)
            count += 1
        self.assertGreater(count, 100)

    def test_amid_programs(self):
        for seed in range(1, 60, 12):
            program, choices = PROGRAMS[seed]
            plain, image = image_for(program), image_for(program)
            run_image(plain, choices, 400)
            self.run_with_plans(image, choices, random.Random(seed))
            self.assertEqual(image.trace, plain.trace, seed)

    def run_with_plans(self, image, choices, chance):
        done = 0
        taken = 0
        while done < 400:
            size = min(400 - done, chance.randrange(1, 60))
            for _ in range(size):
                chosen = running(image) == 0 and bool(ready(image))
                run_image(image, choices[taken:taken + 1], 1)
                taken += chosen
            done += size
            reshape(image, *chance.choice(self.PLANS[:4]))
            self.assertIsNone(fault_of(image))


class Refusals(unittest.TestCase):
    def refused(self, image, error, *change):
        """Looks at a refusal: all that can be reached is as it was."""
        before = told(image)
        with self.assertRaises(error) as caught:
            reshape(image, *change)
        self.assertEqual(told(image), before)
        self.assertIsNone(fault_of(image))
        return caught.exception

    def test_the_plan(self):
        for why, change in (("name", ("Nobody", "Object", [])), ("name", ("x", "Object", [])), ("kernel", ("Array", "Object", [])),
                            ("super", ("Point", "Nobody", [])), ("super", ("Point", "Array", [])), ("ring", ("Point", "Dot", [])),
                            ("ring", ("Point", "Point", [])), ("field", ("Point", "Object", ["x", "Y"])),
                            ("twice", ("Point", "Object", ["x", "x"])), ("twice", ("Point", "Object", ["colour"])),
                            ("twice", ("Spot", "Point", ["y"])), ("many", ("Point", "Object", ["f" + str(k) for k in range(32)]))):
            image = family()
            collections = image.space.collections
            self.assertEqual(self.refused(image, BadClass, *change).why, why)
            self.assertEqual(image.space.collections, collections)

    def test_a_global_that_is_no_class(self):
        image = family()
        define_global(image, "Home")
        self.assertEqual(self.refused(image, BadClass, "Home", "Object", []).why, "name")
        self.assertEqual(self.refused(image, BadClass, "Point", "Home", []).why, "super")
        image.put(image.association("Home"), 1, image.class_named("Dot"))
        self.assertEqual(self.refused(image, BadClass, "Home", "Object", []).why, "name")
        self.assertEqual(self.refused(image, BadClass, "Spot", "Home", []).why, "super")

    def test_methods(self):
        error = self.refused(family(), BadMethod, "Point", "Object", ["x", "z"])
        self.assertEqual([error.owner, error.selector], ["Point", "sum"])
        self.assertIsInstance(error.error, Unknown)
        self.assertEqual([error.error.name, error.error.at], ["y", 9])

    def test_the_order_of_methods(self):
        # The owners come first: those of Spot are not asked as long as one of Point is bad.
        error = self.refused(family(), BadMethod, "Point", "Object", [])
        self.assertEqual([error.owner, error.selector], ["Point", "x"])
        # The order of the globals, also if a class stands before the one above it.
        image = family()
        install(image, image.class_named("Other"), "bad ^x + q")
        reshape(image, "Spot", "Other", ["y", "colour"])
        error = self.refused(image, BadMethod, "Other", "Object", [])
        self.assertEqual([error.owner, error.selector], ["Spot", "all"])

    def test_the_order_of_selectors(self):
        # Their numbers as symbols count, not their places in the class.
        image = family()
        for text in ("b", "a"):
            image.symbol(text)
        for source in ("a ^y", "b ^y"):
            install(image, image.class_named("Dot"), source)
        install(image, image.class_named("Spot"), "all ^1")
        error = self.refused(image, BadMethod, "Spot", "Object", ["x", "colour"])
        self.assertEqual([error.owner, error.selector], ["Dot", "b"])

    def test_the_order_of_sources(self):
        # A block keeps the first method; the second source was known before it.
        image = family()
        define_global(image, "Kept")
        dot = image.class_named("Dot")
        image.symbol("k Kept := [y]")
        install(image, dot, "k Kept := [x]")
        started(image, "go Dot new k")
        run_image(image, [], 100)
        install(image, dot, "k Kept := [y]")
        install(image, image.class_named("Spot"), "all ^1")
        error = self.refused(image, BadMethod, "Spot", "Object", ["colour"])
        self.assertEqual([error.owner, error.selector, error.error.name], ["Dot", "k", "y"])

    def test_declared_names_hide_fields(self):
        image = family()
        install(image, image.class_named("Point"), "f: a | t | t := a. ^[:u | t + u]")
        reshape(image, "Point", "Object", ["a", "t", "u", "x", "y"])
        self.assertIsNone(fault_of(image))

    def test_the_order(self):
        # The plan, then methods, then symbols, then room.
        image = family()
        close_up_numbers(image)
        image.symbols.most = image.symbols.count()
        image.store().room = image.space.live_words()
        image.store().entries = len(image.store().numbers())
        self.refused(image, BadClass, "Point", "Object", ["z", "z"])
        self.refused(image, BadMethod, "Point", "Object", ["newest", "x"])
        error = self.refused(image, NoSymbol, "Point", "Object", ["x", "y", "newest"])
        self.assertEqual(error.limit, image.symbols.count())
        self.refused(image, NoRoom, "Point", "Object", ["x", "y"])
        image.store().room = 20000
        self.refused(image, NoNumber, "Point", "Object", ["x", "y"])

    def test_symbols_are_given_back(self):
        image = family()
        image.symbols.most = image.symbols.count() + 1
        self.refused(image, NoSymbol, "Point", "Object", ["x", "newest", "y", "newer"])
        image = family()
        image.store().room = image.space.live_words()
        self.refused(image, NoRoom, "Point", "Object", ["x", "newest", "y", "newer"])
        self.assertFalse(image.symbols.knows("newest"))

    def test_an_open_piece_of_work(self):
        image = family()
        image.space.begin()
        with self.assertRaises(Wrong):
            reshape(image, "Point", "Object", ["x", "y"])
        image.space.abort()


def change(image):
    reshape(image, "Point", "Object", ["y", "newest", "x"])


class Want(unittest.TestCase):
    def test_room(self):
        sizes = check_want_of_room(self, family, change)
        # The fields, the code of five methods, and four instances, by their classes.
        self.assertEqual([sizes[0], len(sizes), sizes[6:]], [3, 10, [3, 3, 4, 4]])

    def test_numbers(self):
        check_want_of_numbers(self, family, change)

    def test_symbols(self):
        check_want_of_symbols(self, family, change, ["newest"])
        check_want_of_symbols(self, family, lambda image: reshape(image, "Point", "Object", ["b", "x", "a", "y"]), ["b", "a"])

    def test_word_by_word(self):
        sizes = sizes_made(family(), change)
        for k, size in enumerate(sizes):
            image = family()
            before = told(image)
            image.store().room = image.space.live_words() + sum(3 + other for other in sizes[:k]) + 3 + size - 1
            with self.assertRaises(NoRoom) as caught:
                change(image)
            self.assertEqual([caught.exception.need, told(image)], [3 + size, before])
            image.store().room += sum(3 + other for other in sizes[k + 1:]) + 1
            change(image)
            self.assertEqual(rows(image)[0], [2, None, 1])
            self.assertIsNone(fault_of(image))

    def test_numbers_word_by_word(self):
        image = family()
        close_up_numbers(image)
        before = told(image)
        for extra in range(10):
            image.store().entries = len(image.store().numbers()) + extra
            with self.assertRaises(NoNumber):
                change(image)
            self.assertEqual(told(image), before)
        image.store().entries += 1
        change(image)
        self.assertIsNone(fault_of(image))

    def test_garbage_is_no_want(self):
        image = family()
        image.space.collect()
        image.store().room = image.store().used() + sum(3 + size for size in sizes_made(family(), change))
        while image.store().used() + 50 < image.store().room:
            image.array([0] * 40)
        change(image)
        self.assertIsNone(fault_of(image))


class NewObjects(unittest.TestCase):
    def test_how_many(self):
        image = family()
        before = image.space.allocations
        reshape(image, "Point", "Object", ["x", "y"])
        # Also if all fields stay: one Array, five methods, four instances.
        self.assertEqual(image.space.allocations - before, 10)
        before = image.space.allocations
        reshape(image, "Dot", "Spot", [])
        self.assertEqual(image.space.allocations - before, 2)

    def test_primitives_and_other_classes_need_none(self):
        image = point_image()
        before = image.space.allocations
        reshape(image, "Point", "Object", ["x", "y", "z"])
        self.assertEqual(image.space.allocations - before, 1)

    def test_what_is_freed(self):
        image = family()
        for _ in range(5):
            instance(image, "Point")
        before = image.space.allocations
        change(image)
        self.assertEqual(image.space.allocations - before, 10)
        store = image.store()
        self.assertEqual(store.used(), image.space.live_words())
        self.assertEqual(store.numbers(), sorted(reached(store, image.space.all_roots())))

    def test_held_words(self):
        image = family()
        before = image.space.held()
        change(image)
        self.assertEqual(image.space.held(), before)

    def test_whenever_the_space_collects(self):
        plain, image = family(), family()
        change(plain)
        image.space.press([], always=True)
        change(image)
        self.assertEqual(picture(image), picture(plain))


class KindsOf(unittest.TestCase):
    def test_kinds(self):
        image = family()
        define_global(image, "Home")
        image.put(image.association("Home"), 1, image.class_named("Dot"))
        found = [(kind.name, kind.superclass, kind.fields) for kind in kinds_of(image)]
        self.assertEqual(found[0], ("Object", None, ()))
        self.assertEqual(found[14], ("Semaphore", "Object", ()))
        self.assertEqual(found[15:], [("Point", "Object", ("x", "y")), ("Spot", "Point", ("colour",)), ("Dot", "Spot", ()),
                                      ("Other", "Object", ("x", "q"))])
        self.assertTrue(all(isinstance(kind, Kind) for kind in kinds_of(image)))


class Places(unittest.TestCase):
    """Point 10.7: code has the same length, places and literals for all lists of fields with the same names."""

    def test_at_random(self):
        chance = random.Random(1)
        fields = 0
        for seed in range(300):
            tree = grow_method(random.Random(seed), ["a", "b", "c", "Total", "x1"])
            names = ["a", "b", "c", "x1"]
            one = compile_method(tree, names, ["Total"])
            for _ in range(3):
                others = names + ["n" + str(k) for k in range(chance.randrange(20))]
                chance.shuffle(others)
                other = compile_method(tree, others, ["Total"])
                self.assertEqual([other.literals, other.stack, len(other.code)], [one.literals, one.stack, len(one.code)])
                for (op, arg), (same, moved) in zip(one.code, other.code):
                    self.assertEqual(op, same)
                    if op in ("field", "set_field"):
                        fields += 1
                        self.assertEqual(names[arg], others[moved])
                    else:
                        self.assertEqual(arg, moved)
        self.assertGreater(fields, 400)


if __name__ == "__main__":
    unittest.main()
