"""Stepping: points 10.1 and 17.1 to 17.5."""

import unittest

from saggar.contexts import DESCRIPTOR, OUTER, PC, SENDER, callers, stack_of
from saggar.errors import NoNumber, NoRoom
from saggar.kernel import define_class, define_global
from saggar.listing import number_of
from saggar.lookup import put_method
from saggar.methods import install
from saggar.processes import choose, current, give_way, ready, running, spawn
from saggar.stepping import step
from saggar.words import GREATEST, of_int
from tests.images import check_want_of_numbers, check_want_of_room, whole
from tests.machines import instance, machine, point_image, result_of, run, started, traced


def raw(image, code, literals=(), owner="Undefined", receiver=0, count=2, arguments=()):
    """Lets a process run a method with some code, which has room for six words."""
    words = [of_int(number_of(op, arg)) for op, arg in code]
    code = image.space.hold(image.array_of("Code", words))
    literals = image.space.hold(image.array(list(literals)))
    row = [image.symbol("raw"), image.class_named(owner), image.symbol("raw"), code, literals]
    method = image.array_of("Method", row + [of_int(len(arguments)), of_int(count), of_int(6)])
    image.space.drop(2)
    spawn(image, method, receiver, list(arguments))
    choose(image, 0)
    return current(image)


class Instructions(unittest.TestCase):
    def setUp(self):
        self.image = point_image()

    def look(self, context, place, *stack):
        """Looks at the place and the stack of the context that runs."""
        self.assertEqual(current(self.image), context)
        self.assertEqual([self.image.get(context, PC), stack_of(self.image, context)], [of_int(place), list(stack)])

    def steps(self, *counts):
        for _ in range(counts[0] if counts else 1):
            self.assertIsNone(step(self.image))

    def ended(self, context, place, *error):
        """Looks for the end of the process by an error."""
        image = self.image
        self.assertEqual(running(image), 0)
        self.assertEqual(image.trace[-1], ("end", 1, ("error",) + error))
        self.assertEqual(image.get(context, PC), of_int(place))

    def test_pushing(self):
        image = self.image
        code = [("self", 0), ("nil", 0), ("true", 0), ("false", 0), ("literal", 1)]
        context = raw(image, code, [0, of_int(5)], receiver=of_int(9))
        self.look(context, 0)
        found = []
        for k, word in enumerate([of_int(9), 0, 2, 4, of_int(5)]):
            found.append(word)
            self.steps()
            self.look(context, k + 1, *found)

    def test_locals(self):
        code = [("local", 1), ("local", 0), ("set_local", 1), ("local", 1)]
        context = raw(self.image, code, count=3, arguments=[of_int(5)])
        self.steps(2)
        self.look(context, 2, 0, of_int(5))
        self.steps()
        self.look(context, 3, 0, of_int(5))
        self.assertEqual(self.image.items(context)[7:10], [of_int(5), of_int(5), 0])
        self.steps()
        self.look(context, 4, 0, of_int(5), of_int(5))

    def test_pop_and_dup(self):
        context = raw(self.image, [("true", 0), ("false", 0), ("dup", 0), ("pop", 0), ("pop", 0)])
        self.steps(3)
        self.look(context, 3, 2, 4, 4)
        self.steps()
        self.look(context, 4, 2, 4)
        self.steps()
        self.look(context, 5, 2)
        self.assertEqual(self.image.items(context)[-5:], [0] * 5)

    def test_fields(self):
        image = self.image
        spot = image.space.hold(instance(image, "Spot"))
        image.put(spot, 1, of_int(4))
        code = [("field", 1), ("set_field", 2), ("field", 0), ("field", 2)]
        context = raw(image, code, owner="Spot", receiver=spot)
        self.steps()
        self.look(context, 1, of_int(4))
        self.steps()
        self.look(context, 2, of_int(4))
        self.assertEqual(image.items(spot), [0, of_int(4), of_int(4)])
        self.steps(2)
        self.look(context, 4, of_int(4), 0, of_int(4))

    def test_globals(self):
        image = self.image
        define_global(image, "Home")
        home = image.association("Home")
        code = [("global", 0), ("pop", 0), ("literal", 1), ("set_global", 0), ("global", 0), ("global", 2)]
        context = raw(image, code, [home, of_int(6), image.association("Spot")])
        self.steps()
        self.look(context, 1, 0)
        self.steps(3)
        self.look(context, 4, of_int(6))
        self.assertEqual(image.items(home), [image.symbol("Home"), of_int(6)])
        self.steps(2)
        self.look(context, 6, of_int(6), of_int(6), image.class_named("Spot"))

    def test_outer_locals(self):
        image = self.image
        descriptor = image.array([of_int(number) for number in (0, 2, 4, 6)])
        image.space.hold(descriptor)
        code = [("block", 0), ("send", 16), ("nil", 0), ("nil", 0)]
        code += [("outer", 257), ("set_outer", 256), ("block", 2), ("send", 16), ("outer", 512), ("set_outer", 257), ("set_outer", 513)]
        inner = image.space.hold(image.array([of_int(number) for number in (0, 2, 8, 6)]))
        home = raw(image, code, [descriptor, image.symbol("value"), inner], count=2, arguments=[of_int(1), of_int(2)])
        self.steps(2)
        block = current(image)
        self.look(block, 4)
        self.assertEqual([image.get(block, OUTER), image.get(block, DESCRIPTOR), image.get(block, SENDER)], [home, descriptor, home])
        self.steps(2)
        self.look(block, 6, of_int(2))
        self.assertEqual(image.items(home)[7:9], [of_int(2), of_int(2)])
        image.put(home, 7, of_int(8))
        self.steps(2)
        last = current(image)
        self.assertEqual([image.get(last, OUTER), image.get(last, PC)], [block, of_int(8)])
        self.steps()
        self.look(last, 9, of_int(8))
        self.steps(2)
        self.look(last, 11, of_int(8))
        self.assertEqual([image.items(block)[7:9], image.items(home)[7:9]], [[0, of_int(8)], [of_int(8), of_int(8)]])

    def test_making_a_block(self):
        image = self.image
        descriptor = image.space.hold(image.array([of_int(number) for number in (0, 0, 1, 1)]))
        context = raw(image, [("block", 0), ("leave", 0)], [descriptor])
        self.steps()
        block = stack_of(image, context)[0]
        self.look(context, 1, block)
        self.assertEqual([image.class_of(block), image.items(block)], [image.kernel("Block"), [context, descriptor]])

    def test_each_block_is_a_new_one(self):
        image = machine()
        install(image, image.kernel("Object"), "made ^[3]")
        self.assertEqual(result_of("f ^self made == self made", image), ("value", ("false",)))

    def test_jumps(self):
        context = raw(self.image, [("jump", 3), ("true", 0), ("jump", 1), ("jump", 2)])
        for place in (3, 2, 1):
            self.steps()
            self.look(context, place)
        self.steps()
        self.look(context, 2, 2)

    def test_jump_false(self):
        for op, place in [("false", 7), ("true", 2)]:
            self.setUp()
            context = raw(self.image, [(op, 0), ("jump_false", 7)])
            self.steps(2)
            self.look(context, place)

    def test_jump_false_of_anything_else(self):
        for word in (0, of_int(0), of_int(1), "symbol", "point", "class"):
            self.setUp()
            image = self.image
            special = {"symbol": image.symbol("true"), "class": image.kernel("True"), "point": image.space.hold(instance(image, "Point"))}
            context = raw(image, [("literal", 0), ("jump_false", 7)], [special.get(word, word)])
            self.steps(2)
            self.ended(context, 2, "test")

    def test_return_and_leave(self):
        image = self.image
        install(image, image.kernel("Object"), "seven ^7")
        context = raw(image, [("self", 0), ("send", 0), ("return", 0)], [image.symbol("seven")])
        self.steps(2)
        called = current(image)
        self.assertEqual([callers(image, called), stack_of(image, context)], [[called, context], []])
        self.steps(2)
        self.look(context, 2, of_int(7))
        # The word has been taken off, and the sender is kept.
        self.assertEqual([stack_of(image, called), image.get(called, SENDER)], [[], context])
        self.steps()
        self.assertEqual([running(image), image.trace], [0, [("end", 1, ("value", ("int", 7)))]])

    def test_leave_without_a_sender(self):
        image = self.image
        traced("f [5] fork. self yield. ^6", image=image)
        self.assertEqual(image.trace, [("end", 2, ("value", ("int", 5))), ("end", 1, ("value", ("int", 6)))])

    def test_leave_with_a_sender(self):
        image = self.image
        started(image, "f ^[5] value")
        choose(image, 0)
        home = current(image)
        self.steps(3)
        block = current(image)
        self.steps(2)
        self.look(home, 5, of_int(5))
        self.assertEqual([stack_of(image, block), image.get(block, SENDER), image.get(block, PC)], [[], home, of_int(4)])


class Sends(unittest.TestCase):
    def setUp(self):
        self.image = point_image()

    def test_a_method(self):
        image = self.image
        method = install(image, image.class_named("Point"), "at: k put: v | t | ^k - v")
        spot = image.space.hold(instance(image, "Spot"))
        code = [("true", 0), ("literal", 1), ("literal", 2), ("literal", 3), ("send", 2), ("return", 0)]
        context = raw(image, code, [image.symbol("at:put:"), spot, of_int(8), of_int(5)])
        for _ in range(5):
            step(image)
        called = current(image)
        self.assertEqual([image.get(context, PC), stack_of(image, context)], [of_int(5), [2]])
        self.assertEqual(image.items(called), [context, method, 1, 1, spot, 0, 0, of_int(8), of_int(5), 0, 0, 0])
        run(image, limit=5)
        self.assertEqual(image.trace, [("end", 1, ("value", ("int", 3)))])

    def test_a_method_of_a_superclass(self):
        image = self.image
        install(image, image.class_named("Point"), "a ^1")
        install(image, image.class_named("Spot"), "b ^2")
        install(image, image.kernel("Object"), "b ^3")
        for source, told in [("Spot new a", 1), ("Point new a", 1), ("Spot new b", 2), ("Point new b", 3), ("nil b", 3), ("#x b", 3)]:
            self.assertEqual(result_of("f ^" + source, image), ("value", ("int", told)))
        self.assertEqual(result_of("f ^nil a", image), ("error", "unknown", "a"))

    def test_a_primitive(self):
        image = self.image
        context = raw(image, [("true", 0), ("literal", 1), ("literal", 2), ("send", 1)], [image.symbol("-"), of_int(7), of_int(2)])
        for _ in range(4):
            step(image)
        self.assertEqual([current(image), image.get(context, PC), stack_of(image, context)], [context, of_int(4), [2, of_int(5)]])

    def test_a_primitive_that_somebody_put(self):
        image = self.image
        put_method(image, image.class_named("Point"), image.symbol("kind"), of_int(11))
        self.assertEqual(result_of("f ^Point new kind == Point", image), ("value", ("true",)))

    def test_nothing(self):
        for expression, text in [("3 foo", "foo"), ("nil + 3", "+"), ("#a at: 3 put: 4", "at:put:"), ("Point new new", "new"),
                                 ("Point x", "x"), ("3 value", "value"), ("[3] at: 3", "at:")]:
            self.assertEqual(result_of("f ^" + expression, point_image()), ("error", "unknown", text))

    def test_the_place_grows_also_with_an_error(self):
        image = self.image
        context = raw(image, [("self", 0), ("send", 0)], [image.symbol("foo")])
        step(image)
        step(image)
        self.assertEqual([image.get(context, PC), image.trace], [of_int(2), [("end", 1, ("error", "unknown", "foo"))]])

    def test_super(self):
        image = self.image
        install(image, image.kernel("Object"), "name ^#object")
        install(image, image.class_named("Point"), "name ^#point")
        install(image, image.class_named("Spot"), "name ^#spot")
        install(image, image.class_named("Spot"), "up ^super name")
        install(image, image.class_named("Point"), "up2 ^super name")
        install(image, image.class_named("Point"), "up3 ^[[super name] value] value")
        install(image, image.class_named("Point"), "up4 ^self name")
        define_class(image, "Dot", "Spot", [])
        for source, told in [("Spot new up", "point"), ("Dot new up", "point"), ("Point new up2", "object"), ("Spot new up2", "object"),
                             ("Dot new up3", "object"), ("Dot new up4", "spot")]:
            self.assertEqual(result_of("f ^" + source, image), ("value", ("symbol", told)))

    def test_super_with_arguments(self):
        image = self.image
        install(image, image.class_named("Point"), "a: k b: m ^k - m")
        install(image, image.class_named("Spot"), "a: k b: m ^(super a: m b: k) * 2")
        self.assertEqual(result_of("f ^Spot new a: 3 b: 5", image), ("value", ("int", 4)))

    def test_super_and_primitives(self):
        image = self.image
        install(image, image.class_named("Point"), "= other ^#mine")
        install(image, image.class_named("Point"), "same ^super = self")
        self.assertEqual(result_of("f ^Point new same", image), ("value", ("true",)))

    def test_super_without_a_method(self):
        image = self.image
        install(image, image.class_named("Point"), "nowhere ^super nowhere")
        self.assertEqual(result_of("f ^Point new nowhere", image), ("error", "unknown", "nowhere"))

    def test_super_in_object(self):
        image = self.image
        install(image, image.kernel("Object"), "foo ^super foo")
        install(image, image.kernel("Object"), "bar ^super class")
        install(image, image.kernel("Object"), "baz ^[super = 3] value")
        for text in ("foo", "bar", "baz"):
            told = {"foo": "foo", "bar": "class", "baz": "="}[text]
            self.assertEqual(result_of("f ^3 " + text, image), ("error", "unknown", told))
            self.assertEqual(result_of("f ^Spot new " + text, image), ("error", "unknown", told))

    def test_a_method_that_is_replaced_while_it_runs(self):
        image = self.image
        process = started(image, "f 1 show. self yield. 2 show")
        choose(image, 0)
        while running(image):
            step(image)
        install(image, image.kernel("Undefined"), "f ^9")
        run(image)
        self.assertEqual(image.trace[1:], [("show", 1, ("int", 2)), ("end", 1, ("value", ("nil",)))])
        self.assertEqual(image.get(process, 3), of_int(2))


class Globals(unittest.TestCase):
    def test_set_global(self):
        image = point_image()
        define_global(image, "Home")
        self.assertEqual(result_of("f Home := 3. Home := Home + 1. ^Home", image), ("value", ("int", 4)))
        self.assertEqual(image.get(image.association("Home"), 1), of_int(4))

    def test_globals_that_hold_their_class(self):
        image = point_image()
        for name in ("Point", "Spot", "Object", "Array"):
            started(image, "f " + name + " := 3. ^#not")
            choose(image, 0)
            context, word = current(image), image.class_named(name)
            step(image)
            step(image)
            self.assertEqual([image.trace[-1][2], image.get(context, PC)], [("error", "class"), of_int(2)])
            self.assertEqual([image.get(image.association(name), 1), image.class_named(name)], [word, word])

    def test_the_same_class_again(self):
        self.assertEqual(result_of("f Point := Point. ^3", point_image()), ("error", "class"))

    def test_a_global_that_holds_another_class(self):
        image = point_image()
        define_global(image, "Home")
        self.assertEqual(result_of("f Home := Point. Home := Home new class. Home := 3. ^Home", image), ("value", ("int", 3)))


class Receivers(unittest.TestCase):
    """Receivers that have been exchanged."""

    def setUp(self):
        self.image = image = point_image()
        define_class(image, "Other", "Object", ["a", "b", "c", "d"])
        install(image, image.class_named("Point"), "swap: o self become: o. ^y")
        install(image, image.class_named("Point"), "swap: o set: k self become: o. ^y := k")
        install(image, image.class_named("Point"), "y ^y")
        install(image, image.class_named("Point"), "y: k y := k")
        install(image, image.class_named("Spot"), "in: o self become: o. ^[y] value")

    def result(self, source):
        return result_of("f | a b | a := Point new. b := " + source, self.image)

    def test_another_class(self):
        for other in ("Other new", "Object new", "(Array new: 9)"):
            self.assertEqual(self.result(other + ". ^a swap: b"), ("error", "receiver"))
            self.assertEqual(self.result(other + ". ^a swap: b set: 3"), ("error", "receiver"))

    def test_the_same_class_and_one_below(self):
        for other in ("Point", "Spot"):
            self.assertEqual(self.result(other + " new. b y: 7. ^a swap: b"), ("value", ("int", 7)))
            self.assertEqual(self.result(other + " new. b y: 7. a swap: b set: 5. ^a y + (b y isNil)"), ("error", "unknown", "isNil"))
            self.assertEqual(self.result(other + " new. a y: 8. b y: 7. a swap: b set: 5. ^a y * 10 + b y"), ("value", ("int", 58)))

    def test_a_class_above(self):
        self.assertEqual(self.result("Spot new. ^b in: a"), ("error", "receiver"))
        self.assertEqual(self.result("Spot new. a := Spot new. a y: 4. ^b in: a"), ("value", ("int", 4)))

    def test_a_method_for_words_without_fields(self):
        image = self.image
        method = install(image, image.class_named("Point"), "f ^y")
        for word in (of_int(3), image.symbol("a"), 0, 2, image.class_named("Point")):
            spawn(image, method, word, [])
            run(image)
            self.assertEqual(image.trace[-1][2], ("error", "receiver"))

    def test_nothing_is_stored(self):
        image = self.image
        other = image.space.hold(instance(image, "Other"))
        method = install(image, image.class_named("Point"), "f y := 3")
        spawn(image, method, other, [])
        run(image)
        self.assertEqual([image.items(other), image.trace[-1][2]], [[0] * 4, ("error", "receiver")])


class Wanting(unittest.TestCase):
    """Steps without room or without a number."""

    def build(self, source, steps):
        """Returns an image that is about to do a certain step of a source."""
        image = point_image()
        install(image, image.class_named("Point"), "at: k put: v | t | ^k")
        started(image, source)
        choose(image, 0)
        for _ in range(steps):
            step(image)
        return image

    def check(self, source, steps, sizes):
        image = self.build(source, steps)
        before = image.get(current(image), PC)
        self.assertEqual(check_want_of_room(self, lambda: self.build(source, steps), step), sizes)
        check_want_of_numbers(self, lambda: self.build(source, steps), step)
        step(image)
        self.assertNotEqual(before, 0)

    def test_a_block(self):
        self.check("f ^[3]", 0, [2])

    def test_a_send(self):
        self.check("f ^Point new at: 3 put: 4", 4, [7 + 3 + 1])

    def test_primitives(self):
        self.check("f ^Point new", 1, [2])
        self.check("f ^Array new: 20", 2, [20])
        self.check("f ^[:a | | b | a foo: b] value: 3", 3, [7 + 2 + 2])
        self.check("f ^[3] fork", 2, [7 + 0 + 1, 5])

    def test_a_step_can_be_done_when_there_is_room(self):
        image = self.build("f ^[:a | a + 1] value: 3", 3)
        image.space.collect()
        room, before = image.store().room, whole(image)
        image.store().room = image.store().used()
        for _ in range(3):
            with self.assertRaises(NoRoom):
                step(image)
            self.assertEqual(whole(image), before)
        image.store().room = room
        run(image)
        self.assertEqual(image.trace, [("end", 1, ("value", ("int", 4)))])

    def test_steps_that_need_no_room(self):
        image = self.build("f | t | t := 3. (t > 2) == true. [t] == nil. t := t + 1. self yield. ^t", 0)
        image.space.collect()
        image.store().room = image.store().used()
        with self.assertRaises(NoRoom):
            run(image)
        # It is the block that finds no room.
        self.assertEqual(image.get(current(image), PC), of_int(9))

    def test_no_number_for_a_process(self):
        image = self.build("f ^[3] fork", 2)
        image.space.set_root(5, of_int(GREATEST))
        before = whole(image)
        for _ in range(2):
            with self.assertRaises(NoNumber) as caught:
                step(image)
            self.assertEqual([caught.exception.limit, whole(image)], [GREATEST, before])

    def test_want_of_room_in_a_deep_recursion(self):
        image = machine(3000)
        install(image, image.kernel("Object"), "deep: k ^(self deep: k + 1) + 1")
        started(image, "f ^nil deep: 0")
        with self.assertRaises(NoRoom):
            run(image)
        depth = len(callers(image, current(image)))
        self.assertGreater(depth, 20)
        before = whole(image)
        with self.assertRaises(NoRoom):
            step(image)
        self.assertEqual(whole(image), before)
        # Other processes can go on, as far as they need no room.
        give_way(image)
        self.assertEqual([running(image), len(ready(image))], [0, 1])


class Whole(unittest.TestCase):
    def test_arguments_in_order(self):
        image = point_image()
        install(image, image.kernel("Object"), "a: a b: b c: c ^a * 100 + (b * 10) + c")
        self.assertEqual(result_of("f ^nil a: 1 b: 2 c: 3", image), ("value", ("int", 123)))
        self.assertEqual(result_of("f ^[:a :b :c | a * 100 + (b * 10) + c] value: 1 value: 2 value: 3", image), ("value", ("int", 123)))

    def test_loops_and_choices(self):
        source = "f | k n | k := 1. n := 0. [k > 10] value == false. [k < 11] whileTrue: [(k mod: 2) = 0 ifTrue: [n := n + k]. k := k + 1]. ^n"
        self.assertEqual(result_of(source), ("value", ("int", 30)))
        self.assertEqual(result_of("f ^(3 > 4) ifTrue: [1]"), ("value", ("nil",)))
        self.assertEqual(result_of("f ^(3 > 4) ifTrue: [1] ifFalse: [2]"), ("value", ("int", 2)))
        self.assertEqual(result_of("f ^(3 < 4) ifFalse: [1]"), ("value", ("nil",)))
        self.assertEqual(result_of("f ^nil ifTrue: [1]"), ("error", "test"))

    def test_blocks_share_locals(self):
        source = "f | n add | n := 0. add := [:k | n := n + k]. add value: 3. add value: 4. ^n"
        self.assertEqual(result_of(source), ("value", ("int", 7)))
        source = "f | make a b | make := [| n | n := 0. [n := n + 1]]. a := make value. b := make value. a value. a value. b value. ^a value * 10 + b value"
        self.assertEqual(result_of(source), ("value", ("int", 32)))

    def test_recursion(self):
        image = machine()
        install(image, image.kernel("Integer"), "fib self < 2 ifTrue: [^self]. ^(self - 1) fib + (self - 2) fib")
        self.assertEqual(result_of("f ^12 fib", image), ("value", ("int", 144)))

    def test_trees_of_objects(self):
        image = machine(4000)
        define_class(image, "Node", "Object", ["key", "next"])
        node = image.class_named("Node")
        for source in ["key ^key", "next ^next", "key: k key := k", "next: n next := n"]:
            install(image, node, source)
        source = """f | head k n | k := 0. [k < 200] whileTrue: [n := Node new. n key: k. n next: head. head := n.
            (k mod: 10) = 9 ifTrue: [head := nil]. k := k + 1]. ^n key"""
        self.assertEqual(result_of(source, image), ("value", ("int", 199)))
        self.assertGreater(image.space.collections, 0)

    def test_collections_at_every_call_of_new(self):
        source = """f | a s k | s := Semaphore new. a := Array new: 3. k := 0.
            [a at: 1 put: [:x | x + 1]. s signal] fork. s wait. a at: 2 put: Point new.
            [k < 5] whileTrue: [k := (a at: 1) value: k. [^k show] ensure: [(a at: 2) show. s signal. s wait]]. ^k"""
        self.assertEqual(traced(source, image=point_image(), always=True), traced(source, image=point_image()))

    def test_one_step_of_one_process_only(self):
        image = machine()
        started(image, "f ^1 + 2")
        other = started(image, "g ^3")
        choose(image, 0)
        before = image.items(other), image.items(image.get(other, 0))
        step(image)
        self.assertEqual((image.items(other), image.items(image.get(other, 0))), before)


if __name__ == "__main__":
    unittest.main()
