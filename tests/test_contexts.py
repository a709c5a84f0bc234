"""Contexts: points 15.1 to 15.3."""

import unittest

from saggar import contexts
from saggar.contexts import (DESCRIPTOR, FIXED, METHOD, OUTER, PC, RECEIVER, SENDER, TOP, block_context, callers, drop,
                             home_of, method_context, outwards, peek, pop, push, stack_of)
from saggar.kernel import define_class, new_image
from saggar.methods import install
from saggar.words import of_int
from tests.images import check_want_of_numbers, check_want_of_room, picture

# Two arguments, four locals and a stack of three words; a block with one
# argument, three locals and a stack of two words.
SOURCE = "at: k put: v | t u | t := [:a | | b c | a + k]. ^self a: 1 b: 2"


def build():
    """Returns an image with a method, whose word is the root 9."""
    image = new_image(8000, 800)
    define_class(image, "Point", "Object", ["x", "y"])
    image.space.set_root(9, install(image, image.class_named("Point"), SOURCE))
    return image


def words(numbers):
    return [of_int(number) for number in numbers]


def make_context(image):
    """Returns a context of the method, which the root 10 keeps."""
    context = method_context(image, 0, image.space.root(9), of_int(70), words([71, 72]))
    image.space.set_root(10, context)
    return context


def descriptor(image):
    """Returns the Array of the block among the literals of the method."""
    row = image.items(image.get(image.space.root(9), 4))
    return [word for word in row if image.class_of(word) == image.kernel("Array")][0]


def make_block(image):
    """Returns a block of the context in the root 10, which the root 11 keeps."""
    block = image.array_of("Block", [image.space.root(10), descriptor(image)])
    image.space.set_root(11, block)
    return block


class Slots(unittest.TestCase):
    def setUp(self):
        self.image = build()
        self.method = self.image.space.root(9)

    def test_names(self):
        self.assertEqual([SENDER, METHOD, PC, TOP, RECEIVER, OUTER, DESCRIPTOR, FIXED], list(range(8)))

    def test_a_context_of_a_method(self):
        image = self.image
        sender = image.space.hold(make_context(image))
        context = method_context(image, sender, self.method, image.symbol("me"), words([1, 2]))
        self.assertEqual(image.class_of(context), image.kernel("Context"))
        fixed = [sender, self.method, of_int(0), of_int(0), image.symbol("me"), 0, 0]
        self.assertEqual(image.items(context), fixed + words([1, 2]) + [0, 0] + [0, 0, 0])
        self.assertEqual(image.get(context, FIXED), of_int(1))

    def test_a_method_without_locals(self):
        image = self.image
        method = install(image, image.class_named("Point"), "f ^3")
        context = method_context(image, 0, method, 2, [])
        self.assertEqual(image.items(context), [0, method, 1, 1, 2, 0, 0, 0])

    def test_a_context_of_a_block(self):
        image = self.image
        outer = make_context(image)
        block = make_block(image)
        self.assertEqual(image.items(descriptor(image)), words([1, 3, 2, 2]))
        context = block_context(image, outer, block, words([5]))
        self.assertEqual(image.class_of(context), image.kernel("Context"))
        fixed = [outer, self.method, of_int(2), of_int(0), of_int(70), outer, descriptor(image)]
        self.assertEqual(image.items(context), fixed + words([5]) + [0, 0] + [0, 0])

    def test_a_block_within_a_block(self):
        image = self.image
        method = install(image, image.class_named("Point"), "f ^[[:a | self]]")
        image.space.set_root(9, method)
        outer = image.space.hold(method_context(image, 0, method, of_int(8), []))
        first, second = image.items(image.get(method, 4))
        middle = image.space.hold(block_context(image, 0, image.array_of("Block", [outer, first]), []))
        inner = block_context(image, outer, image.array_of("Block", [middle, second]), [of_int(4)])
        row = image.items(inner)
        self.assertEqual(row, [outer, method, of_int(4), of_int(0), of_int(8), middle, second, of_int(4), 0])

    def test_the_method_may_be_out_of_its_class(self):
        image = self.image
        install(image, image.class_named("Point"), "at: k put: v ^k")
        context = make_context(image)
        self.assertEqual(len(image.items(context)), 7 + 4 + 3)

    def test_arguments_are_not_modified(self):
        arguments = words([1, 2])
        method_context(self.image, 0, self.method, 0, arguments)
        self.assertEqual(arguments, words([1, 2]))

    def test_collections_change_nothing(self):
        pictures = []
        for always in (False, True):
            image = build()
            image.space.press([], always=always)
            make_context(image)
            make_block(image)
            image.space.set_root(12, block_context(image, image.space.root(10), image.space.root(11), [of_int(5)]))
            pictures.append(picture(image))
        self.assertEqual(pictures[0], pictures[1])


class Stacks(unittest.TestCase):
    def setUp(self):
        self.image = build()
        method = make_context(self.image)
        make_block(self.image)
        block = block_context(self.image, 0, self.image.space.root(11), [of_int(5)])
        self.image.space.set_root(12, block)
        # The context, its first slot of the stack, and how many there are.
        self.cases = [(method, FIXED + 4, 3), (block, FIXED + 3, 2)]

    def check(self, context, bottom, numbers):
        """Looks at the stack, and at the slots above it."""
        image = self.image
        row = image.items(context)
        self.assertEqual(stack_of(image, context), words(numbers))
        self.assertEqual(row[TOP], of_int(len(numbers)))
        self.assertEqual(row[bottom:], words(numbers) + [0] * (len(row) - bottom - len(numbers)))

    def test_push_and_pop(self):
        for context, bottom, size in self.cases:
            before = self.image.items(context)
            self.check(context, bottom, [])
            for k in range(size):
                self.assertIsNone(push(self.image, context, of_int(10 + k)))
                self.check(context, bottom, [10 + j for j in range(k + 1)])
            for k in reversed(range(size)):
                self.assertEqual(pop(self.image, context), of_int(10 + k))
                self.check(context, bottom, [10 + j for j in range(k)])
            self.assertEqual(self.image.items(context), before)

    def test_peek(self):
        for context, bottom, size in self.cases:
            for k in range(size):
                push(self.image, context, of_int(10 + k))
            found = [peek(self.image, context, depth) for depth in range(size)]
            self.assertEqual(found, words([10 + k for k in reversed(range(size))]))
            self.check(context, bottom, [10 + k for k in range(size)])

    def test_drop(self):
        for context, bottom, size in self.cases:
            for count in range(size + 1):
                for k in range(size):
                    push(self.image, context, of_int(10 + k))
                self.assertIsNone(drop(self.image, context, count))
                self.check(context, bottom, [10 + k for k in range(size - count)])
                drop(self.image, context, size - count)
                self.check(context, bottom, [])

    def test_stack_of_is_a_new_list(self):
        context = self.cases[0][0]
        push(self.image, context, of_int(1))
        stack_of(self.image, context).append(5)
        self.check(context, FIXED + 4, [1])

    def test_other_contexts_stay(self):
        method, block = self.cases[0][0], self.cases[1][0]
        before = self.image.items(block)
        push(self.image, method, of_int(1))
        self.assertEqual(self.image.items(block), before)


class Chains(unittest.TestCase):
    def setUp(self):
        self.image = image = build()
        method = install(image, image.class_named("Point"), "f ^[[[self]]]")
        literals = image.items(image.get(method, 4))
        self.home = image.space.hold(method_context(image, 0, method, 0, []))
        self.chain = [self.home]
        for literal in literals:
            block = image.array_of("Block", [self.chain[-1], literal])
            # Each is called by the home, not by the one outwards.
            self.chain.append(image.space.hold(block_context(image, self.home, block, [])))

    def test_outwards(self):
        for k, context in enumerate(self.chain):
            for distance in range(k + 1):
                self.assertEqual(outwards(self.image, context, distance), self.chain[k - distance])

    def test_home_of(self):
        self.assertEqual([home_of(self.image, context) for context in self.chain], [self.home] * 4)
        other = make_context(self.image)
        self.assertEqual(home_of(self.image, other), other)

    def test_callers(self):
        image = self.image
        self.assertEqual(callers(image, 0), [])
        self.assertEqual(callers(image, self.home), [self.home])
        self.assertEqual(callers(image, self.chain[3]), [self.chain[3], self.home])
        image.put(self.home, SENDER, make_context(image))
        self.assertEqual(callers(image, self.chain[2]), [self.chain[2], self.home, image.space.root(10)])

    def test_they_change_nothing(self):
        before = picture(self.image)
        for context in self.chain:
            outwards(self.image, context, 0)
            home_of(self.image, context)
            callers(self.image, context)
        self.assertEqual(picture(self.image), before)


class Want(unittest.TestCase):
    def ready(self):
        image = build()
        make_context(image)
        make_block(image)
        image.space.collect()
        return image

    def test_of_methods(self):
        self.assertEqual(check_want_of_room(self, self.ready, make_context), [7 + 4 + 3])
        check_want_of_numbers(self, self.ready, make_context)

    def test_of_blocks(self):
        def make(image):
            block_context(image, image.space.root(10), image.space.root(11), words([5]))

        self.assertEqual(check_want_of_room(self, self.ready, make), [7 + 3 + 2])
        check_want_of_numbers(self, self.ready, make)

    def test_nothing_else_is_made(self):
        self.assertEqual(contexts.FIXED, 7)
        image = self.ready()
        before = len(image.store().numbers())
        make_context(image)
        self.assertEqual([len(image.store().numbers()), image.space.held()], [before + 1, 0])


if __name__ == "__main__":
    unittest.main()
