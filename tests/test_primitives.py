"""Primitives: points 16.1 to 16.3, and 17.4 for finish:for:."""

import unittest

from saggar.contexts import DESCRIPTOR, OUTER, SENDER, drop, method_context, push, stack_of
from saggar.errors import NoNumber, Trouble
from saggar.kernel import FALSE, KERNEL, TRUE, define_class, new_image
from saggar.lexing import arity
from saggar.lookup import own_method, selectors
from saggar.methods import install, source_of
from saggar.primitives import PRIMITIVES, install_primitives, perform
from saggar.processes import choose, current, number_of, ready, running
from saggar.words import GREATEST, LEAST, int_of, of_int
from tests.images import check_want_of_numbers, check_want_of_room, picture, sizes_made, whole
from tests.machines import instance, machine, point_image, result_of, run, started, traced

TABLE = """
Integer + 1, Integer - 2, Integer * 3, Integer // 4, Integer mod: 5, Integer rem: 6, Integer < 7, Integer > 8, Object = 9,
Object == 10, Object class 11, Object show 12, Object yield 13, Object become: 14, Class new 15, Class new: 16, Array at: 17,
Array at:put: 18, Array size 19, Block value 20, Block value: 21, Block value:value: 22, Block value:value:value: 23,
Block numArgs 24, Block fork 25, Block finish:for: 26, Semaphore wait 27, Semaphore signal 28
"""
NUMBERS = {}
for row in TABLE.replace("\n", " ").split(","):
    owner, selector, number = row.split()
    NUMBERS[selector] = int(number)


def ground(image=None):
    """Returns an image with a process that runs, whose stack has room for nine words."""
    image = point_image() if image is None else image
    started(image, "f ^1 a: 2 b: 3 c: 4 d: 5 e: 6 f: 7 g: 8 h: 9")
    choose(image, 0)
    return image


def put_on_stack(image, words):
    for word in words:
        push(image, current(image), word)


class Primitives(unittest.TestCase):
    def setUp(self):
        self.image = ground()
        self.below = self.image.symbol("below")

    def perform(self, selector, receiver, *arguments):
        """Carries out a primitive; returns what stands in the place of its words."""
        image = self.image
        context = current(image)
        put_on_stack(image, (self.below, receiver) + arguments)
        answer = perform(image, NUMBERS[selector], context, len(arguments))
        self.assertIsNone(answer)
        found = stack_of(image, context)
        self.assertEqual([found[0], len(found), current(image)], [self.below, 2, context])
        drop(image, context, 2)
        return found[1]

    def refuses(self, error, selector, receiver, *arguments):
        image = self.image
        context = current(image)
        put_on_stack(image, (receiver,) + arguments)
        before = [whole(image), stack_of(image, context), image.space.allocations]
        with self.assertRaises(Trouble) as caught:
            perform(image, NUMBERS[selector], context, len(arguments))
        self.assertEqual(caught.exception.what, error, (selector, receiver, arguments))
        self.assertEqual([whole(image), stack_of(image, context), image.space.allocations], before)
        drop(image, context, len(arguments) + 1)

    def ints(self, selector, rows):
        """Looks at rows of a receiver, an argument and an answer or an error."""
        for receiver, argument, answer in rows:
            words = [of_int(receiver), of_int(argument)]
            if isinstance(answer, str):
                self.refuses((answer,), selector, *words)
            elif isinstance(answer, bool):
                self.assertEqual(self.perform(selector, *words), TRUE if answer else FALSE, (receiver, selector, argument))
            else:
                self.assertEqual(self.perform(selector, *words), of_int(answer), (receiver, selector, argument))


class Installing(unittest.TestCase):
    def test_the_table(self):
        self.assertEqual(" ".join(" ".join([name, selector, str(number)]) for name, selector, number in PRIMITIVES),
                         " ".join(TABLE.replace(",", " ").split()))
        self.assertEqual([type(PRIMITIVES), {type(row) for row in PRIMITIVES}], [tuple, {tuple}])

    def test_the_kernel_classes_have_them(self):
        image = new_image(4000, 400)
        self.assertIsNone(install_primitives(image))
        for name in KERNEL:
            own = [(selector, number) for owner, selector, number in PRIMITIVES if owner == name]
            self.assertEqual(selectors(image, image.kernel(name)), [selector for selector, _ in own] + ["ensure:"] * (name == "Block"))
            for selector, number in own:
                self.assertEqual(own_method(image, image.kernel(name), image.symbol(selector)), of_int(number))

    def test_ensure(self):
        image = new_image(4000, 400)
        self.assertEqual(image.space.root(8), 0)
        install_primitives(image)
        method = image.space.root(8)
        self.assertEqual(own_method(image, image.kernel("Block"), image.symbol("ensure:")), method)
        self.assertEqual(image.get(method, 1), image.kernel("Block"))
        source = "ensure: aBlock | result home | result := self value. aBlock value. ^self finish: result for: home"
        self.assertEqual(source_of(image, method), source)
        self.assertEqual([image.space.root(k) for k in range(2, 8)], [0, 0, 0, of_int(1), 2, 4])
        self.assertEqual([image.space.held(), image.trace], [0, []])

    def test_collections_change_nothing(self):
        pictures = []
        for always in (False, True):
            image = new_image(4000, 400)
            image.space.press([], always=always)
            install_primitives(image)
            pictures.append([picture(image), image.symbols.texts()])
        self.assertEqual(pictures[0], pictures[1])

    def test_the_room_of_a_fresh_image_is_enough(self):
        image = new_image(4000, 1000)
        install_primitives(image)
        self.assertLess(image.space.live_words(), 1000)


class Numbers(Primitives):
    def test_sums(self):
        self.ints("+", [(2, 3, 5), (2, -3, -1), (GREATEST, 0, GREATEST), (GREATEST - 1, 1, GREATEST), (GREATEST, 1, "overflow"),
                        (LEAST, -1, "overflow"), (LEAST, GREATEST, -1), (LEAST, LEAST, "overflow"), (LEAST + 1, -1, LEAST)])
        self.ints("-", [(2, 3, -1), (2, -3, 5), (LEAST, 0, LEAST), (LEAST + 1, 1, LEAST), (LEAST, 1, "overflow"),
                        (GREATEST, -1, "overflow"), (0, LEAST, "overflow"), (-1, LEAST, GREATEST), (0, GREATEST, LEAST + 1)])

    def test_products(self):
        self.ints("*", [(2, 3, 6), (-2, 3, -6), (-2, -3, 6), (0, LEAST, 0), (1, LEAST, LEAST), (-1, LEAST, "overflow"),
                        (-1, GREATEST, LEAST + 1), (16384, 16384, "overflow"), (16384, -16384, LEAST), (-16385, 16384, "overflow"),
                        (16384, 16383, 268419072), (LEAST, LEAST, "overflow")])

    def test_quotients(self):
        self.ints("//", [(7, 2, 3), (-7, 2, -4), (7, -2, -4), (-7, -2, 3), (6, 2, 3), (-6, 2, -3), (6, -2, -3), (-6, -2, 3),
                         (0, 5, 0), (1, 5, 0), (-1, 5, -1), (LEAST, -1, "overflow"), (LEAST, 1, LEAST), (GREATEST, -1, LEAST + 1),
                         (5, 0, "zero"), (0, 0, "zero"), (LEAST, LEAST, 1)])

    def test_rests(self):
        self.ints("mod:", [(7, 2, 1), (-7, 2, 1), (7, -2, -1), (-7, -2, -1), (6, 2, 0), (-6, 2, 0), (7, 5, 2), (-7, 5, 3),
                           (7, -5, -3), (-7, -5, -2), (LEAST, -1, 0), (5, 0, "zero"), (0, 0, "zero"), (0, -3, 0)])
        self.ints("rem:", [(7, 2, 1), (-7, 2, -1), (7, -2, 1), (-7, -2, -1), (6, 2, 0), (-6, 2, 0), (7, 5, 2), (-7, 5, -2),
                           (7, -5, 2), (-7, -5, -2), (LEAST, -1, 0), (5, 0, "zero"), (0, 0, "zero"), (0, -3, 0), (-1, 5, -1)])

    def test_quotients_and_rests_fit_together(self):
        for one in range(-7, 8):
            for other in range(-4, 5):
                if other == 0:
                    continue
                words = (of_int(one), of_int(other))
                quotient, rest, other_rest = [int_of(self.perform(text, *words)) for text in ("//", "mod:", "rem:")]
                self.assertEqual(quotient * other + rest, one)
                self.assertTrue(rest == 0 or (rest < 0) == (other < 0))
                self.assertTrue(other_rest == 0 or (other_rest < 0) == (one < 0))
                self.assertEqual((one - other_rest) % other, 0)
                self.assertLess(abs(other_rest), abs(other))

    def test_comparing(self):
        self.ints("<", [(2, 3, True), (3, 3, False), (4, 3, False), (LEAST, GREATEST, True), (-1, 0, True), (0, -1, False)])
        self.ints(">", [(2, 3, False), (3, 3, False), (4, 3, True), (GREATEST, LEAST, True), (-1, 0, False), (0, -1, True)])

    def test_arguments_that_are_no_numbers(self):
        image = self.image
        for selector in ("+", "-", "*", "//", "mod:", "rem:", "<", ">"):
            for word in (0, TRUE, FALSE, image.symbol("a"), image.kernel("Integer"), image.space.root(0)):
                self.refuses(("integer",), selector, of_int(3), word)
                self.refuses(("integer",), selector, of_int(LEAST), word)

    def test_integer_comes_before_zero_and_overflow(self):
        self.ints("//", [(LEAST, 0, "zero"), (LEAST, -1, "overflow")])
        self.refuses(("integer",), "//", of_int(LEAST), 0)


class Objects(Primitives):
    def test_same(self):
        image = self.image
        one, other = image.space.hold(image.array([5])), image.space.hold(image.array([5]))
        words = [of_int(0), of_int(1), image.symbol("a"), image.symbol("b"), 0, TRUE, FALSE, one, other, image.kernel("Array")]
        for selector in ("=", "=="):
            for first in words:
                for second in words:
                    self.assertEqual(self.perform(selector, first, second), TRUE if first == second else FALSE)

    def test_class(self):
        image = self.image
        point = image.space.hold(instance(image, "Point"))
        for word, name in [(of_int(3), "Integer"), (image.symbol("a"), "Symbol"), (0, "Undefined"), (TRUE, "True"), (FALSE, "False"),
                           (point, "Point"), (image.kernel("Array"), "Class"), (image.kernel("Class"), "Class")]:
            self.assertEqual(self.perform("class", word), image.class_named(name))

    def test_show(self):
        image = self.image
        point = image.space.hold(instance(image, "Point"))
        words = [(of_int(-3), ("int", -3)), (image.symbol("a b"), ("symbol", "a b")), (0, ("nil",)), (TRUE, ("true",)),
                 (FALSE, ("false",)), (point, ("object", "Point")), (image.kernel("Array"), ("object", "Class"))]
        for word, told in words:
            self.assertEqual(self.perform("show", word), word)
            self.assertEqual(image.trace[-1], ("show", 1, told))
        self.assertEqual(len(image.trace), len(words))

    def test_show_tells_the_process(self):
        image = machine()
        for k in range(3):
            started(image, "f " + str(k) + " show")
        run(image, [2, 0, 0])
        self.assertEqual([row for row in image.trace if row[0] == "show"],
                         [("show", 3, ("int", 2)), ("show", 1, ("int", 0)), ("show", 2, ("int", 1))])

    def test_yield(self):
        image = self.image
        context, process = current(image), running(image)
        other = started(image, "g ^1")
        put_on_stack(image, [of_int(3)])
        self.assertIsNone(perform(image, 13, context, 0))
        self.assertEqual([running(image), ready(image), stack_of(image, context)], [0, [other, process], [of_int(3)]])


class Becoming(Primitives):
    def test_two_objects(self):
        image = self.image
        point = image.space.hold(instance(image, "Point"))
        array = image.space.hold(image.array([of_int(k) for k in range(5)]))
        image.put(point, 1, of_int(9))
        self.assertEqual(self.perform("become:", point, array), point)
        self.assertEqual([image.class_of(point), image.class_of(array)], [image.kernel("Array"), image.class_named("Point")])
        self.assertEqual([image.items(point), image.items(array)], [[of_int(k) for k in range(5)], [0, of_int(9)]])
        self.perform("become:", point, array)
        self.assertEqual([image.items(point), image.class_of(array)], [[0, of_int(9)], image.kernel("Array")])

    def test_an_object_and_itself(self):
        image = self.image
        point = image.space.hold(instance(image, "Point"))
        before = list(image.store().words)
        self.assertEqual(self.perform("become:", point, point), point)
        self.assertEqual(image.store().words, before)

    def test_kernel_classes_that_may(self):
        image = self.image
        made = [image.space.hold(self.perform("new", image.kernel(name))) for name in ("Object", "Array", "Association")]
        made.append(image.space.hold(instance(image, "Spot")))
        for one in made:
            for other in made:
                kinds = [image.class_of(one), image.class_of(other)]
                self.assertEqual(self.perform("become:", one, other), one)
                self.assertEqual([image.class_of(other), image.class_of(one)], kinds)

    def test_words_that_are_refused(self):
        image = self.image
        point = image.space.hold(instance(image, "Point"))
        method = image.space.root(8)
        block = image.space.hold(image.array_of("Block", [current(image), 0]))
        semaphore = image.space.hold(image.array_of("Semaphore", [1, 0, 0]))
        words = [of_int(3), of_int(0), image.symbol("a"), image.kernel("Array"), image.class_named("Point"), 0, TRUE, FALSE, method,
                 image.get(method, 3), block, current(image), running(image), semaphore]
        kinds = {image.class_name(image.class_of(word)) for word in words}
        self.assertEqual(kinds, set(KERNEL) - {"Object", "Array", "Association"})
        for word in words:
            self.refuses(("become",), "become:", word, point)
            self.refuses(("become",), "become:", point, word)
            self.refuses(("become",), "become:", word, word)
            self.refuses(("become",), "become:", word, block)

    def test_no_room_is_needed(self):
        image = self.image
        point = image.space.hold(instance(image, "Point"))
        array = image.space.hold(image.array([5] * 50))
        image.store().room = image.store().used()
        self.perform("become:", point, array)
        self.assertEqual(len(image.items(point)), 50)


class Making(Primitives):
    def test_new(self):
        image = self.image
        define_class(image, "Empty", "Object", [])
        for name, slots in [("Object", []), ("Array", []), ("Association", [0, 0]), ("Semaphore", [of_int(0), 0, 0]),
                            ("Point", [0, 0]), ("Spot", [0, 0, 0]), ("Empty", [])]:
            word = self.perform("new", image.class_named(name))
            self.assertEqual([image.class_of(word), image.items(word)], [image.class_named(name), slots])

    def test_new_of_other_kernel_classes(self):
        for name in KERNEL:
            if name not in ("Object", "Array", "Association", "Semaphore"):
                self.refuses(("new",), "new", self.image.kernel(name))

    def test_new_arrays(self):
        image = self.image
        image.store().room = 100000
        array = image.kernel("Array")
        for size in (0, 1, 7, 10000):
            word = self.perform("new:", array, of_int(size))
            self.assertEqual([image.class_of(word), image.items(word)], [array, [0] * size])
        for size in (-1, 10001, LEAST, GREATEST):
            self.refuses(("new",), "new:", array, of_int(size))
        for word in (0, TRUE, image.symbol("a"), array):
            self.refuses(("new",), "new:", array, word)

    def test_new_arrays_of_other_classes(self):
        image = self.image
        for name in KERNEL + ("Point", "Spot"):
            if name != "Array":
                self.refuses(("new",), "new:", image.class_named(name), of_int(3))

    def test_want(self):
        for name, argument, size in [("Object", None, 0), ("Association", None, 2), ("Semaphore", None, 3), ("Spot", None, 3),
                                     ("Array", None, 0), ("Array", of_int(9), 9)]:
            def build(name=name, argument=argument):
                image = ground()
                put_on_stack(image, [image.class_named(name)] + ([] if argument is None else [argument]))
                return image

            def action(image, argument=argument):
                if argument is None:
                    perform(image, NUMBERS["new"], current(image), 0)
                else:
                    perform(image, NUMBERS["new:"], current(image), 1)

            self.assertEqual(check_want_of_room(self, build, action), [size])
            check_want_of_numbers(self, build, action)


class Arrays(Primitives):
    def setUp(self):
        Primitives.setUp(self)
        self.words = [of_int(7), self.image.symbol("a"), 0, TRUE]
        self.array = self.image.space.hold(self.image.array(self.words))

    def test_at(self):
        for k, word in enumerate(self.words):
            self.assertEqual(self.perform("at:", self.array, of_int(k + 1)), word)
        for index in (0, 5, -1, LEAST, GREATEST):
            self.refuses(("index",), "at:", self.array, of_int(index))
        for word in (0, TRUE, self.image.symbol("a"), self.array, 4, 8):
            self.refuses(("index",), "at:", self.array, word)

    def test_at_put(self):
        for k in range(4):
            self.assertEqual(self.perform("at:put:", self.array, of_int(k + 1), of_int(30 + k)), of_int(30 + k))
            self.words[k] = of_int(30 + k)
            self.assertEqual(self.image.items(self.array), self.words)
        for index in (0, 5, -1, LEAST, GREATEST):
            self.refuses(("index",), "at:put:", self.array, of_int(index), of_int(3))
        for word in (0, TRUE, self.image.symbol("a"), self.array):
            self.refuses(("index",), "at:put:", self.array, word, of_int(3))
        self.assertEqual(self.perform("at:put:", self.array, of_int(1), self.array), self.array)
        self.assertEqual(self.image.get(self.array, 0), self.array)

    def test_one_slot_and_none(self):
        image = self.image
        one, none = image.space.hold(image.array([of_int(3)])), image.space.hold(image.array([]))
        self.assertEqual(self.perform("at:", one, of_int(1)), of_int(3))
        for index in (0, 1, 2):
            self.refuses(("index",), "at:", none, of_int(index))
            self.refuses(("index",), "at:put:", none, of_int(index), 0)
        self.refuses(("index",), "at:", one, of_int(2))
        self.refuses(("index",), "at:put:", one, of_int(0), 0)

    def test_size(self):
        for size in (0, 1, 4, 300):
            word = self.image.space.hold(self.image.array([5] * size))
            self.assertEqual(self.perform("size", word), of_int(size))

    def test_behind_become(self):
        point = self.image.space.hold(instance(self.image, "Point"))
        self.perform("become:", point, self.array)
        self.assertEqual([self.perform("size", point), self.perform("at:", point, of_int(1))], [of_int(4), of_int(7)])


BLOCKS = {count: ":a :b :c :d "[:3 * count] for count in range(5)}


def with_block(count, stack=()):
    """Returns an image with a running process and a block on its stack, and words above it."""
    image = point_image()
    params = BLOCKS[count] + "| " if count else ""
    started(image, "f ^1 a: 2 b: 3 c: 4 d: [" + params + "| t u | #x foo: #y]")
    choose(image, 0)
    method = image.get(current(image), 1)
    row = image.items(image.get(method, 4))
    descriptor = [word for word in row if image.class_of(word) == image.kernel("Array")][0]
    put_on_stack(image, [of_int(99), image.array_of("Block", [current(image), descriptor])] + list(stack))
    return image


class Blocks(unittest.TestCase):
    def test_value(self):
        for count, selector in enumerate(["value", "value:", "value:value:", "value:value:value:"]):
            arguments = [of_int(k) for k in range(count)]
            image = with_block(count, arguments)
            context, process = current(image), running(image)
            block = stack_of(image, context)[1]
            self.assertIsNone(perform(image, NUMBERS[selector], context, count))
            self.assertEqual([running(image), stack_of(image, context)], [process, [of_int(99)]])
            made = current(image)
            self.assertNotEqual(made, context)
            row = image.items(made)
            self.assertEqual([row[SENDER], row[OUTER], row[DESCRIPTOR]], [context, context, image.get(block, 1)])
            self.assertEqual(row[7:], arguments + [0, 0] + [0, 0])
            self.assertEqual(row[2:5], [image.get(image.get(block, 1), 2), of_int(0), 0])

    def test_other_numbers_of_arguments(self):
        for takes in range(5):
            for count, selector in enumerate(["value", "value:", "value:value:", "value:value:value:"]):
                if count != takes:
                    image = with_block(takes, [of_int(k) for k in range(count)])
                    before = [whole(image), image.space.allocations]
                    with self.assertRaises(Trouble) as caught:
                        perform(image, NUMBERS[selector], current(image), count)
                    self.assertEqual(caught.exception.what, ("arguments",))
                    self.assertEqual([whole(image), image.space.allocations], before)

    def test_num_args(self):
        for count in range(5):
            image = with_block(count)
            context = current(image)
            perform(image, NUMBERS["numArgs"], context, 0)
            self.assertEqual(stack_of(image, context), [of_int(99), of_int(count)])
        self.assertEqual(result_of("f ^[:a :b :c :d :e :g :h :i :j :k :l :m :n :o :p | ] numArgs"), ("value", ("int", 15)))

    def test_fork(self):
        image = with_block(0)
        context, process = current(image), running(image)
        perform(image, NUMBERS["fork"], context, 0)
        self.assertEqual([running(image), current(image)], [process, context])
        other = stack_of(image, context)[1]
        self.assertEqual([ready(image), number_of(image, other), image.space.root(5)], [[other], 2, of_int(3)])
        made = image.get(other, 0)
        row = image.items(made)
        self.assertEqual([row[SENDER], row[OUTER], row[7:]], [0, context, [0] * 4])
        self.assertEqual(stack_of(image, context)[0], of_int(99))

    def test_fork_of_a_block_with_arguments(self):
        for count in range(1, 5):
            image = with_block(count)
            before = whole(image)
            with self.assertRaises(Trouble) as caught:
                perform(image, NUMBERS["fork"], current(image), 0)
            self.assertEqual([caught.exception.what, whole(image)], [("arguments",), before])

    def test_fork_without_a_number(self):
        image = with_block(2)
        image.space.set_root(5, of_int(GREATEST))
        # Errors of the table come before what is made.
        with self.assertRaises(Trouble):
            perform(image, NUMBERS["fork"], current(image), 0)
        image = with_block(0)
        image.space.set_root(5, of_int(GREATEST))
        before = whole(image)
        with self.assertRaises(NoNumber) as caught:
            perform(image, NUMBERS["fork"], current(image), 0)
        self.assertEqual([caught.exception.limit, whole(image)], [GREATEST, before])

    def test_want(self):
        cases = [("value", 0, [7 + 2 + 2]), ("value:value:", 2, [7 + 4 + 2]), ("fork", 0, [7 + 2 + 2, 5])]
        for selector, count, sizes in cases:
            def build(count=count):
                return with_block(count, [of_int(k) for k in range(count)])

            def action(image, selector=selector, count=count):
                perform(image, NUMBERS[selector], current(image), count)

            self.assertEqual(check_want_of_room(self, build, action), sizes)
            check_want_of_numbers(self, build, action)


class Finishing(Primitives):
    def call(self, image, words):
        """Carries out finish:for: with words on the stack, the receiver first."""
        put_on_stack(image, words)
        perform(image, NUMBERS["finish:for:"], current(image), 2)

    def test_nil(self):
        block = self.image.space.hold(self.image.array_of("Block", [current(self.image), 0]))
        for word in (of_int(3), 0, self.image.symbol("a"), block):
            self.assertEqual(self.perform("finish:for:", block, word, 0), word)

    def test_something_else(self):
        image = self.image
        block = image.space.hold(image.array_of("Block", [current(image), 0]))
        point = image.space.hold(instance(image, "Point"))
        for word in (of_int(3), image.symbol("a"), TRUE, FALSE, point, block, image.kernel("Context"), running(image),
                     image.get(current(image), 1), image.space.root(0)):
            self.refuses(("arguments",), "finish:for:", block, of_int(7), word)

    def test_contexts_that_do_not_call(self):
        image = self.image
        block = image.space.hold(image.array_of("Block", [current(image), 0]))
        method = image.get(current(image), 1)
        other = image.space.hold(method_context(image, 0, method, 0, []))
        self.refuses(("gone",), "finish:for:", block, of_int(7), other)
        # It begins with the sender of the context that runs.
        self.refuses(("gone",), "finish:for:", block, of_int(7), current(image))
        image.put(other, SENDER, current(image))
        self.refuses(("gone",), "finish:for:", block, of_int(7), other)

    def senders(self, count):
        """Lets the process run a context with so many senders; returns all of them."""
        image = self.image
        contexts = [current(image)]
        for _ in range(count):
            contexts.insert(0, image.space.hold(method_context(image, contexts[0], image.get(contexts[0], 1), 0, [])))
        image.put(running(image), 0, contexts[0])
        return contexts

    def test_a_context_that_calls(self):
        for home in (1, 2):
            self.image = image = ground()
            contexts = self.senders(3)
            block = image.space.hold(image.array_of("Block", [contexts[0], 0]))
            self.call(image, [self.below, self.below, block, of_int(7), contexts[home]])
            self.assertEqual(current(image), contexts[home + 1])
            self.assertEqual(stack_of(image, contexts[0]), [self.below] * 2)
            self.assertEqual([stack_of(image, context) for context in contexts[1:]],
                             [[of_int(7)] if k == home + 1 else [] for k in range(1, 4)])

    def test_a_context_without_a_sender(self):
        image = self.image
        contexts = self.senders(2)
        process = running(image)
        block = image.space.hold(image.array_of("Block", [contexts[0], 0]))
        self.call(image, [block, of_int(7), contexts[2]])
        self.assertEqual([running(image), image.items(process)[3:], image.trace],
                         [0, [of_int(2), of_int(7)], [("end", 1, ("value", ("int", 7)))]])

    def test_guards_in_between(self):
        image = self.image
        bottom = current(image)
        guard = image.space.hold(method_context(image, bottom, image.space.root(8), 0, [of_int(5)]))
        image.put(guard, 2, of_int(2))
        context = image.space.hold(method_context(image, guard, image.get(bottom, 1), 0, []))
        image.put(running(image), 0, context)
        block = image.space.hold(image.array_of("Block", [context, 0]))
        self.call(image, [block, of_int(7), bottom])
        self.assertEqual([current(image), stack_of(image, context)], [guard, []])
        self.assertEqual(image.items(guard)[2:4] + image.items(guard)[7:10], [of_int(4), of_int(0), of_int(5), of_int(7), bottom])


class Semaphores(Primitives):
    def semaphore(self, count):
        return self.image.space.hold(self.image.array_of("Semaphore", [of_int(count), 0, 0]))

    def test_signal(self):
        semaphore = self.semaphore(3)
        self.assertEqual(self.perform("signal", semaphore), semaphore)
        self.assertEqual(self.image.items(semaphore), [of_int(4), 0, 0])
        self.refuses(("overflow",), "signal", self.semaphore(GREATEST))

    def test_wait_for_a_count(self):
        semaphore = self.semaphore(1)
        self.assertEqual(self.perform("wait", semaphore), semaphore)
        self.assertEqual(self.image.items(semaphore), [of_int(0), 0, 0])

    def test_wait(self):
        image = self.image
        semaphore, context, process = self.semaphore(0), current(self.image), running(self.image)
        put_on_stack(image, [self.below, semaphore])
        self.assertIsNone(perform(image, NUMBERS["wait"], context, 0))
        self.assertEqual([running(image), stack_of(image, context)], [0, [self.below, semaphore]])
        self.assertEqual(image.items(semaphore), [of_int(0), process, process])
        self.assertEqual(image.get(process, 3), of_int(1))

    def test_signal_lets_another_one_go_on(self):
        image = self.image
        semaphore, first = self.semaphore(0), running(self.image)
        put_on_stack(image, [semaphore])
        perform(image, NUMBERS["wait"], current(image), 0)
        started(image, "f ^1 a: 2")
        choose(image, 0)
        self.assertEqual(self.perform("signal", semaphore), semaphore)
        self.assertEqual([ready(image), image.items(semaphore)], [[first], [of_int(0), 0, 0]])


class Programs(unittest.TestCase):
    """Primitives by their selectors."""

    def test_values(self):
        for expression, told in [
                ("3 + 4", ("int", 7)), ("3 - 4", ("int", -1)), ("3 * 4", ("int", 12)), ("-7 // 2", ("int", -4)),
                ("-7 mod: 2", ("int", 1)), ("-7 rem: 2", ("int", -1)), ("3 < 4", ("true",)), ("3 > 4", ("false",)),
                ("#a = #a", ("true",)), ("#a == #b", ("false",)), ("nil = nil", ("true",)), ("3 class", ("object", "Class")),
                ("3 class == Integer", ("true",)), ("#a show", ("symbol", "a")), ("3 yield", ("int", 3)),
                ("Point new", ("object", "Point")), ("(Array new: 3) size", ("int", 3)), ("(Array new: 3) at: 3", ("nil",)),
                ("(Array new: 3) at: 1 put: 7", ("int", 7)), ("[3] value", ("int", 3)), ("[:a | a] value: 4", ("int", 4)),
                ("[:a :b | a - b] value: 4 value: 6", ("int", -2)), ("[:a :b :c | a - b * c] value: 4 value: 6 value: 5", ("int", -10)),
                ("[:a :b | a] numArgs", ("int", 2)), ("[3] fork", ("object", "Process")), ("Semaphore new signal", ("object", "Semaphore")),
                ("Semaphore new signal wait", ("object", "Semaphore")), ("Point new become: Spot new", ("object", "Spot")),
                ("Point == Point new class", ("true",)), ("Class class == Class", ("true",)), ("Class new", ("error", "new")),
                ("(Array new: 2) at: 3", ("error", "index")), ("[:a | a] value", ("error", "arguments")), ("3 + #a", ("error", "integer")),
                ("3 become: 4", ("error", "become")), ("[3] value: 4", ("error", "arguments")), ("3 // 0", ("error", "zero"))]:
            told = told if told[0] == "error" else ("value", told)
            image = point_image()
            self.assertEqual(traced("f ^" + expression, image=image)[-1 if "fork" not in expression else 0][2], told, expression)

    def test_selectors_take_as_many_arguments_as_primitives(self):
        for _, text, _ in PRIMITIVES:
            self.assertEqual(text.count(":") or (0 if text[0].isalpha() else 1), arity(text))

    def test_an_image_without_primitives(self):
        image = new_image(2000, 200)
        started(image, "f ^1 + 2")
        run(image)
        self.assertEqual(image.trace, [("end", 1, ("error", "unknown", "+"))])

    def test_a_method_in_the_place_of_a_primitive(self):
        image = machine()
        install(image, image.kernel("Integer"), "+ k ^#sum")
        self.assertEqual(result_of("f ^1 + 2", image), ("value", ("symbol", "sum")))

    def test_the_class_of_what_was_exchanged(self):
        image = point_image()
        source = "f | a b | a := Point new. b := Array new: 4. a become: b. a at: 4 put: b. ^(a at: 4) class == Point"
        self.assertEqual(result_of(source, image), ("value", ("true",)))

    def test_what_is_made(self):
        image = ground()
        put_on_stack(image, [image.kernel("Semaphore")])
        self.assertEqual(sizes_made(image, lambda image: perform(image, 15, current(image), 0)), [3])


if __name__ == "__main__":
    unittest.main()
