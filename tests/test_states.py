"""States: what point 18.8 tells of all objects between two steps."""

import unittest

from saggar.contexts import DESCRIPTOR, FIXED, METHOD, OUTER, PC, RECEIVER, SENDER, TOP
from saggar.kernel import define_global, new_image
from saggar.methods import draft_for, install, make_method
from saggar.processes import current, number_of, ready, running, spawn
from saggar.running import run_image
from saggar.states import state_fault
from saggar.words import GREATEST, LEAST, of_int
from tests.breaking import Breaking, watch
from tests.machines import machine, point_image, started
from tests.test_programs import PROGRAMS, image_for
from tests.test_running import ENDS, point_machine

CONTEXT, NEXT, NUMBER, STATE, RESULT = range(5)


class InOrder(unittest.TestCase):
    def test_new_images(self):
        self.assertIsNone(state_fault(new_image(1000, 100)))
        self.assertIsNone(state_fault(machine()))

    def test_programs(self):
        for seed in range(0, 60, 5):
            program, choices = PROGRAMS[seed]
            watch(self, state_fault, image_for(program), choices)

    def test_programs_that_collect(self):
        program, choices = PROGRAMS[5]
        image = image_for(program)
        image.space.press([], always=True)
        watch(self, state_fault, image, choices, 200)

    def test_ends(self):
        for source, _ in ENDS:
            image = point_machine()
            started(image, "go " + source)
            watch(self, state_fault, image)
            image.space.collect()
            self.assertIsNone(state_fault(image))

    def test_want_of_room(self):
        image = machine()
        started(image, "go [1 show] fork. ^2")
        for extra in range(30):
            image.store().room = image.space.live_words() + extra
            watch(self, state_fault, image)

    def test_nothing_changes(self):
        image = scene()
        before = [image.store().words[:], image.space.all_roots(), image.space.collections, image.symbols.texts()]
        state_fault(image)
        self.assertEqual(before, [image.store().words, image.space.all_roots(), image.space.collections, image.symbols.texts()])


SOURCE = "go: k | b t | b := [:e | | v | [e show. nil yield. ^k]]. t := b value: 3. t := t value. ^t"
WAITING = "go Gate wait. nil yield. ^7"
DEEPER = "go ^7 = Gate wait"


def scene():
    """Returns an image amid a run: one process runs, two are ready, two wait, and one has ended."""
    image = point_image()
    define_global(image, "Gate")
    define_global(image, "Other")
    for source in ("go Gate := Semaphore new. Other := Semaphore new. Other signal. ^Gate", WAITING, DEEPER):
        started(image, source)
    run_image(image, [], 100)
    for number in (1, 2):
        method = install(image, image.class_named("Spot"), SOURCE)
        receiver = image.space.hold(image.array([]))
        spawn(image, method, receiver, [of_int(number)])
        image.space.drop(1)
    started(image, "go nil yield. ^1")
    # Each of the first two has come to its second block, and the first one runs again.
    while len(image.trace) < 3 or running(image) == 0 or number_of(image, running(image)) != 4:
        run_image(image, [], 1)
    image.space.collect()
    return image


def objects(image, name):
    store = image.store()
    return [2 * number for number in store.numbers() if store.kind(number) == image.kernel(name)]


class Broken(Breaking, unittest.TestCase):
    """Each rule is broken by one slot or root, which is taken back."""

    def setUp(self):
        self.image, self.fault = scene(), state_fault

    def tearDown(self):
        self.assertIsNone(state_fault(self.image))

    def inner(self):
        """Returns the contexts of the running process: the innermost one first."""
        found = [current(self.image)]
        while self.image.get(found[-1], SENDER) != 0:
            found.append(self.image.get(found[-1], SENDER))
        return found

    def plain(self):
        """Returns a context of a method in which no block was made."""
        return self.image.get(ready(self.image)[-1], CONTEXT)

    def waiting(self):
        image = self.image
        first = image.get(self.gate(), 1)
        return [first, image.get(first, NEXT)]

    def gate(self):
        return self.image.get(self.image.association("Gate"), 1)

    def test_the_scene(self):
        image = self.image
        self.assertEqual(len(self.inner()), 2)
        self.assertEqual([image.get(word, DESCRIPTOR) == 0 for word in self.inner()], [False, True])
        self.assertEqual(len(objects(image, "Process")), 5)
        self.assertEqual([len(objects(image, "Block")), len(self.waiting())], [4, 2])

    def test_blocks(self):
        image = self.image
        context, home = self.inner()
        middle = image.get(context, OUTER)
        inner = image.get(context, DESCRIPTOR)
        outer = image.get(middle, DESCRIPTOR)
        copy = image.array(image.items(outer))
        for word in objects(image, "Block"):
            maker = image.get(word, 0)
            self.breaks("block", word, 0, 0, 5, image.symbol("go"), copy, image.kernel("Block"), self.plain())
            right = image.get(word, 1)
            wrong = outer if right == inner else inner
            self.breaks("block", word, 1, 0, 5, image.symbol("go"), copy, wrong, image.get(image.get(maker, METHOD), 4))
        self.assertIn(home, [image.get(word, 0) for word in objects(image, "Block")])

    def test_blocks_of_other_methods(self):
        # The other process carries out a method with the same source.
        image = self.image
        other = image.get(ready(image)[0], CONTEXT)
        for word in objects(image, "Block"):
            if image.get(image.get(word, 0), METHOD) == image.get(current(image), METHOD):
                self.breaks("block", word, 0, other, image.get(other, OUTER))
                self.breaks("block", word, 1, image.get(other, DESCRIPTOR), image.get(image.get(other, OUTER), DESCRIPTOR))

    def test_a_block_of_what_is_no_context(self):
        image = self.image
        for word in objects(image, "Block"):
            # An Array and a method have as many slots as a context, but are none.
            looks = image.space.hold(image.array(image.items(image.get(word, 0))))
            self.breaks("block", word, 0, looks, image.get(current(image), METHOD))
            # The context outwards must have a routine itself.
            outer = image.get(word, 0)
            if image.get(outer, DESCRIPTOR) != 0:
                self.breaks("block", outer, DESCRIPTOR, 5, 2, image.symbol("go"))

    def test_an_equal_descriptor_is_another_one(self):
        image = self.image
        word = objects(image, "Block")[0]
        copy = image.space.hold(image.array(image.items(image.get(word, 1))))
        self.breaks("block", word, 1, copy)

    def test_the_method_of_a_context(self):
        image = self.image
        other = image.get(current(image), METHOD)
        self.breaks("context", self.plain(), METHOD, 0, 5, image.symbol("go"), image.kernel("Method"), self.plain(), other)

    def test_the_routine_of_a_context(self):
        context, home = self.inner()
        image = self.image
        middle = image.get(context, OUTER)
        # The blocks that a context made are asked first.
        self.breaks("block", home, DESCRIPTOR, image.get(middle, DESCRIPTOR))
        self.breaks("block", middle, DESCRIPTOR, 0, image.get(context, DESCRIPTOR))
        self.breaks("context", context, DESCRIPTOR, 0, 5, image.get(middle, DESCRIPTOR), image.kernel("Array"))
        self.breaks("context", self.plain(), DESCRIPTOR, image.get(context, DESCRIPTOR), 5, of_int(0))

    def test_the_context_outwards(self):
        context, home = self.inner()
        image = self.image
        middle = image.get(context, OUTER)
        self.assertEqual(image.get(middle, OUTER), home)
        other = image.get(ready(image)[0], CONTEXT)
        self.breaks("context", context, OUTER, 0, 5, home, context, other, image.get(other, OUTER), image.symbol("go"))
        self.breaks("context", middle, OUTER, 0, middle, context, image.get(image.get(other, OUTER), OUTER))
        for word in (context, middle):
            looks = image.space.hold(image.array(image.items(image.get(word, OUTER))))
            self.breaks("context", word, OUTER, looks, image.get(word, METHOD))
        # The context of a method has none.
        self.breaks("context", home, OUTER, home, middle, 5)
        self.breaks("context", self.plain(), OUTER, home, of_int(0), 2)

    def test_the_method_of_the_context_outwards(self):
        # It is the context of a method with the same receiver, and it makes a block, but of another method.
        image = self.image
        middle = image.get(current(image), OUTER)
        home = image.get(middle, OUTER)
        method = image.get(image.get(ready(image)[0], CONTEXT), METHOD)
        row = image.items(home)
        row[METHOD] = method
        row[SENDER] = 0
        row[FIXED + 1:] = [0] * len(row[FIXED + 1:])
        other = image.space.hold(image.array_of("Context", row))
        self.assertIsNone(state_fault(image))
        self.breaks("context", middle, OUTER, other)

    def test_the_receiver_of_the_context_outwards(self):
        context, home = self.inner()
        for word in (context, home, self.image.get(context, OUTER)):
            self.breaks("context", word, RECEIVER, 0, 5, context)

    def test_the_receiver_of_a_method_is_free(self):
        image = self.image
        for other in (5, 2, image.symbol("go")):
            image.put(self.plain(), RECEIVER, other)
            self.assertIsNone(state_fault(image))

    def test_the_place_of_a_context(self):
        image = self.image
        context, home = self.inner()
        left = image.get(context, OUTER)
        length = len(image.items(image.get(image.get(left, METHOD), 3)))
        others = [of_int(-1), of_int(length + 1), of_int(GREATEST), of_int(LEAST), 0, image.symbol("go")]
        for word in (left, home, context):
            self.breaks("context", word, PC, *others)
        # A context that has been left may have any place up to the length.
        before = image.get(left, PC)
        for place in (0, 1, length):
            image.put(left, PC, of_int(place))
            self.assertIsNone(state_fault(image))
        image.put(left, PC, before)

    def test_the_height_of_a_context(self):
        image = self.image
        left = image.get(current(image), OUTER)
        stack = len(image.items(left)) - FIXED - 2
        self.breaks("context", left, TOP, of_int(-1), of_int(stack + 1), 0, image.symbol("go"), of_int(GREATEST))
        for height in range(stack + 1):
            image.put(left, TOP, of_int(height))
            self.assertIsNone(state_fault(image))

    def test_slots_above_the_height(self):
        image = self.image
        left = image.get(current(image), OUTER)
        last = len(image.items(left)) - 1
        self.breaks("context", left, last, 2, of_int(0), image.symbol("go"))
        image.put(left, TOP, of_int(last + 1 - FIXED - 2))
        image.put(left, last, 2)
        self.assertIsNone(state_fault(image))

    def test_the_sender_of_a_context(self):
        image = self.image
        left = image.get(current(image), OUTER)
        looks = image.array(image.items(self.plain()))
        self.breaks("context", left, SENDER, 5, image.symbol("go"), image.kernel("Context"), ready(image)[0], 2, looks,
                    image.get(left, METHOD))
        image.put(left, SENDER, self.plain())
        self.assertIsNone(state_fault(image))

    def test_the_running_process(self):
        image = self.image
        self.breaks("process", running(image), STATE, of_int(1), of_int(2), of_int(-1), 0, image.symbol("go"))
        self.breaks("process", running(image), NEXT, running(image), ready(image)[0], self.waiting()[0], 5, 2)
        self.breaks_root("process", 2, 0, 5, ready(image)[0], self.waiting()[0], self.gate(), image.symbol("go"), 2)

    def test_what_is_no_process(self):
        image = self.image
        looks = image.space.hold(image.array(image.items(ready(image)[1])))
        self.breaks_root("process", 2, looks, image.kernel("Process"))
        self.breaks_root("process", 4, looks, image.kernel("Process"))
        self.breaks("process", ready(image)[0], NEXT, looks)
        last = self.waiting()[1]
        looks = image.space.hold(image.array(image.items(last)))
        self.breaks("semaphore", self.waiting()[0], NEXT, looks)
        self.breaks("semaphore", last, CONTEXT, image.space.hold(image.array(image.items(image.get(last, CONTEXT)))))

    def test_the_ready_processes(self):
        image = self.image
        first, last = ready(image)
        for word in (first, last):
            self.breaks("process", word, STATE, of_int(1), of_int(2), of_int(3), 0)
        self.breaks("process", first, NEXT, 0, first, running(image), self.waiting()[0], self.waiting()[1], 5, self.gate())
        self.breaks("process", last, NEXT, last, first, running(image), self.waiting()[0], 5, 2)
        self.breaks_root("process", 3, 0, last, running(image), self.waiting()[1], 5, 2, image.symbol("go"))
        self.breaks_root("process", 4, 0, first, running(image), self.waiting()[1], 5, 2, image.symbol("go"))

    def test_the_count_of_a_semaphore(self):
        image = self.image
        self.breaks("semaphore", self.gate(), 0, of_int(-1), of_int(1), of_int(GREATEST), of_int(LEAST), 0, image.symbol("go"), 2)
        other = image.get(image.association("Other"), 1)
        self.breaks("semaphore", other, 0, of_int(-1), of_int(LEAST), 0, image.symbol("go"), other)
        for count in (0, 1, GREATEST):
            image.put(other, 0, of_int(count))
            self.assertIsNone(state_fault(image))

    def test_those_that_wait(self):
        image = self.image
        first, last = self.waiting()
        gate, other = self.gate(), image.get(image.association("Other"), 1)
        for word in (first, last):
            self.breaks("semaphore", word, STATE, of_int(0), of_int(2), of_int(3), 0)
        self.breaks("semaphore", first, NEXT, 0, first, running(image), ready(image)[0], 5, gate, 2)
        self.breaks("semaphore", last, NEXT, last, first, running(image), ready(image)[0], 5, gate, 2)
        self.breaks("process", gate, 1, last)
        self.breaks("semaphore", gate, 1, 0, running(image), ready(image)[1], 5, gate, 2, image.symbol("go"))
        self.breaks("semaphore", gate, 2, 0, first, running(image), ready(image)[1], 5, gate, 2, image.symbol("go"))
        # A semaphore for which none waits has a count here, which is asked, too.
        image.put(other, 0, of_int(0))
        self.breaks("semaphore", other, 1, first, last, running(image), ready(image)[0], 5)
        self.breaks("semaphore", other, 2, first, last, 5)

    def test_the_semaphore_on_the_stack(self):
        image = self.image
        for process in self.waiting():
            context = image.get(process, CONTEXT)
            at = FIXED + image.get(context, TOP) // 4 - 1
            self.assertEqual(image.get(context, at), self.gate())
            self.breaks("semaphore", context, at, 0, 5, image.get(image.association("Other"), 1), process)
            self.breaks("semaphore", process, CONTEXT, 0, 5, current(image), process)

    def test_the_numbers_of_processes(self):
        image = self.image
        words = objects(image, "Process")
        numbers = [image.get(word, NUMBER) for word in words]
        self.assertEqual(image.space.root(5), of_int(7))
        for word in words:
            others = [number for number in numbers if number != image.get(word, NUMBER)]
            self.breaks("process", word, NUMBER, of_int(0), of_int(-1), of_int(7), of_int(8), 0, image.symbol("go"), *others)
        self.breaks_root("process", 5, of_int(6), of_int(0), of_int(1), of_int(-1), 0, image.symbol("go"), 2)
        for number in (8, GREATEST):
            image.space.set_root(5, of_int(number))
            self.assertIsNone(state_fault(image))

    def test_a_process_that_has_ended(self):
        image = self.image
        word = image.array_of("Process", [0, 0, of_int(1), of_int(2), of_int(7)])
        self.assertIsNone(state_fault(image))
        self.breaks("process", word, CONTEXT, self.plain(), current(image), 5, 2, word)
        self.breaks("process", word, NEXT, word, running(image), 5, 2)
        self.breaks("process", word, STATE, of_int(0), of_int(1), of_int(3), of_int(-1), 0)
        for result in (0, 5, word, image.symbol("go")):
            image.put(word, RESULT, result)
            self.assertIsNone(state_fault(image))

    def test_the_result_of_one_that_has_not_ended(self):
        image = self.image
        for word in [running(image)] + ready(image) + self.waiting():
            self.breaks("process", word, RESULT, 5, 2, word, image.symbol("go"))

    def test_the_context_of_a_process(self):
        image = self.image
        others = [0, 5, 2, image.symbol("go"), running(image)]
        self.breaks("process", running(image), CONTEXT, self.plain(), self.inner()[1], *others)
        self.breaks("process", ready(image)[1], CONTEXT, self.inner()[0], self.inner()[1], *others)

    def test_chains(self):
        image = self.image
        context, home = self.inner()
        self.breaks("process", home, SENDER, context, home, self.plain(), image.get(self.waiting()[0], CONTEXT))
        self.breaks("process", self.plain(), SENDER, context, home)

    def test_the_place_and_the_height_of_the_first_one(self):
        image = self.image
        context = self.plain()
        place, height = image.get(context, PC) // 4, image.get(context, TOP) // 4
        self.assertEqual([place, height], [2, 1])
        # The code is: nil, send, pop, literal, return; only the place 4 has this height, too.
        self.breaks("process", context, PC, of_int(0), of_int(3), of_int(5))
        image.put(context, PC, of_int(4))
        self.assertIsNone(state_fault(image))
        image.put(context, PC, of_int(1))
        self.assertIsNone(state_fault(image))
        image.put(context, PC, of_int(2))
        image.put(context, FIXED, 0)
        self.breaks("process", context, TOP, of_int(0))

    def test_the_place_of_another_routine(self):
        image = self.image
        context = current(image)
        start = image.items(image.get(image.get(context, OUTER), DESCRIPTOR))[2]
        self.assertEqual(image.get(context, TOP), of_int(0))
        # Both are reached at this height in their routines.
        self.breaks("process", context, PC, of_int(0), start)

    def test_the_places_of_the_others(self):
        image = self.image
        home = self.inner()[1]
        place, height = image.get(home, PC) // 4, image.get(home, TOP) // 4
        self.assertEqual(height, 0)
        code = [word // 4 // 65536 for word in image.items(image.get(image.get(home, METHOD), 3))]
        # Where it goes on, the word that it waits for is set and popped.
        self.assertEqual(code[place:place + 2], [1, 13])
        for other in (place - 4, place - 3, place - 1, place + 1, place + 3):
            image.put(home, PC, of_int(other))
            self.assertIsNone(state_fault(image))
        self.breaks("process", home, PC, of_int(0), of_int(place - 2), of_int(place + 2), of_int(len(code)))
        self.breaks("process", home, TOP, of_int(1))


class NotReached(unittest.TestCase):
    def test_they_count(self):
        for name, row, why in (
                ("Block", [0, 0], "block"), ("Context", [0] * 7, "context"), ("Context", [0, 0, 1, 1, 0, 0, 0], "context"),
                ("Semaphore", [0, 0, 0], "semaphore"), ("Semaphore", [of_int(-1), 0, 0], "semaphore"),
                ("Process", [0, 0, 0, 0, 0], "process"), ("Process", [0, 0, of_int(1), of_int(0), 0], "process"),
                ("Process", [0, 0, of_int(1), of_int(2), 0], "process"), ("Block", [], "block"), ("Block", [0] * 3, "block"),
                ("Context", [], "context"), ("Context", [0] * 6, "context"), ("Semaphore", [], "semaphore"),
                ("Semaphore", [of_int(0), 0, 0, 0], "semaphore"), ("Process", [], "process"), ("Process", [0] * 6, "process")):
            image = machine()
            image.array_of(name, row)
            self.assertEqual(state_fault(image), why, (name, row))
            image.space.collect()
            self.assertIsNone(state_fault(image))

    def test_a_block_of_a_small_context(self):
        image = machine()
        context = image.array_of("Context", [0] * 6)
        image.array_of("Block", [context, 0])
        self.assertEqual(state_fault(image), "block")

    def test_processes_of_other_sizes(self):
        image = machine()
        image.space.set_root(5, of_int(9))
        for row in ([0, 0, of_int(1), of_int(2)], [0, 0, of_int(1), of_int(2), 0, 0]):
            image.array_of("Process", row)
            self.assertEqual(state_fault(image), "process")
            image.space.collect()
        small = image.array_of("Process", [0, 0, of_int(1), of_int(0)])
        image.space.set_root(3, small)
        image.space.set_root(4, small)
        self.assertEqual(state_fault(image), "process")

    def test_those_in_order(self):
        image = machine()
        image.array_of("Semaphore", [of_int(3), 0, 0])
        image.array_of("Array", [5, image.symbol("x")])
        image.space.set_root(5, of_int(2))
        image.array_of("Process", [0, 0, of_int(1), of_int(2), 5])
        self.assertIsNone(state_fault(image))

    def test_two_that_have_the_same_number(self):
        image = machine()
        started(image, "go ^1")
        image.array_of("Process", [0, 0, of_int(1), of_int(2), 0])
        self.assertEqual(state_fault(image), "process")


class FirstRule(unittest.TestCase):
    def test_the_order(self):
        # All rules are broken; they are mended from the first one on.
        image = machine()
        block = image.array_of("Block", [0, 0])
        context = image.array_of("Context", [0] * 7)
        semaphore = image.array_of("Semaphore", [0, 0, 0])
        process = image.array_of("Process", [0, 0, 0, 0, 0])
        image.space.set_root(3, process)
        found = []
        for mend in (lambda: image.store().drop(block // 2), lambda: image.store().drop(context // 2),
                     lambda: image.space.set_root(3, 0), lambda: image.store().drop(semaphore // 2),
                     lambda: image.store().drop(process // 2)):
            found.append(state_fault(image))
            mend()
        self.assertEqual(found, ["block", "context", "process", "semaphore", "process"])
        self.assertIsNone(state_fault(image))


class OddMethods(unittest.TestCase):
    """Methods that are not in order have no routines; nothing fails."""

    def test_context_of_it(self):
        image = machine()
        owner = image.kernel("Undefined")
        draft = draft_for(image, owner, "go ^[[1] value] value")
        method = make_method(image, owner, "go ^[[1] value] value", draft)
        row = [0, method, of_int(0), of_int(0), 0, 0, 0] + [0] * draft.stack
        context = image.space.hold(image.array_of("Context", row))
        self.assertIsNone(state_fault(image))
        code, literals = image.get(method, 3), image.get(method, 4)
        inner = [word for word in image.items(literals) if word % 2 == 0]
        changes = [(method, 3, literals), (method, 3, 0), (method, 4, code), (method, 4, 5), (method, 6, 0), (method, 7, 2),
                   (code, 0, of_int(-1)), (code, 0, of_int(22 * 65536)), (code, 0, 0), (code, 1, of_int(18 * 65536 + 60000)),
                   (code, 1, of_int(18 * 65536 + len(draft.code))), (code, 0, of_int(17 * 65536 + len(draft.literals))),
                   (code, 0, of_int(17 * 65536 + 99)), (inner[0], 2, 0), (inner[0], 2, of_int(-1)), (inner[0], 2, of_int(999))]
        for word, at, other in changes:
            before = image.get(word, at)
            image.put(word, at, other)
            self.assertEqual(state_fault(image), "context", (word, at, other))
            image.put(word, at, before)
        self.assertIsNone(state_fault(image))
        image.put(context, METHOD, image.array_of("Method", [0]))
        self.assertEqual(state_fault(image), "context")


if __name__ == "__main__":
    unittest.main()
