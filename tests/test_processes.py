"""Processes: points 16.3 and 18.1 to 18.5."""

import unittest

from saggar.contexts import home_of, method_context, peek
from saggar.errors import NoNumber, Trouble
from saggar.kernel import define_class
from saggar.methods import install
from saggar.processes import (choose, current, give_way, number_of, ready, running, shown, signal, spawn, spawn_block,
                              wait)
from saggar.stepping import step
from saggar.words import GREATEST, LEAST, of_int
from tests.images import check_want_of_numbers, check_want_of_room, picture, whole
from tests.machines import instance, machine, point_image, run, started, traced

CONTEXT, NEXT, NUMBER, STATE, RESULT = range(5)


def three():
    """Returns an image with three ready processes, and their words."""
    image = machine()
    image.space.set_root(9, install(image, image.kernel("Undefined"), "go: k ^k"))
    return image, [spawn(image, image.space.root(9), 0, [of_int(k)]) for k in range(3)]


def with_semaphore(count=0):
    """Returns an image with three ready processes, their words, and a semaphore."""
    image, processes = three()
    image.space.set_root(10, image.array_of("Semaphore", [of_int(count), 0, 0]))
    return image, processes, image.space.root(10)


class Spawning(unittest.TestCase):
    def test_slots(self):
        image = machine()
        method = install(image, image.kernel("Undefined"), "at: k put: v | t | ^self a: k")
        process = spawn(image, method, of_int(7), [of_int(1), of_int(2)])
        self.assertEqual(image.class_of(process), image.kernel("Process"))
        context = image.get(process, CONTEXT)
        self.assertEqual(image.items(process), [context, 0, of_int(1), of_int(0), 0])
        self.assertEqual(image.items(context), [0, method, 1, 1, of_int(7), 0, 0, of_int(1), of_int(2), 0, 0, 0])
        self.assertEqual([image.space.held(), image.trace], [0, []])

    def test_numbers(self):
        image, processes = three()
        self.assertEqual([number_of(image, process) for process in processes], [1, 2, 3])
        self.assertEqual(image.space.root(5), of_int(4))

    def test_the_order(self):
        image, processes = three()
        self.assertEqual(ready(image), processes)
        self.assertEqual([image.space.root(3), image.space.root(4)], [processes[0], processes[2]])
        self.assertEqual([image.get(process, NEXT) for process in processes], processes[1:] + [0])
        self.assertEqual(running(image), 0)
        ready(image).clear()
        self.assertEqual(len(ready(image)), 3)

    def test_none(self):
        image = machine()
        self.assertEqual([ready(image), running(image)], [[], 0])

    def test_a_block(self):
        image = machine()
        method = install(image, image.kernel("Undefined"), "f ^[| a b | self a: a b: b]")
        context = image.space.hold(method_context(image, 0, method, of_int(7), []))
        descriptor = image.get(image.get(method, 4), 0)
        block = image.space.hold(image.array_of("Block", [context, descriptor]))
        process = spawn_block(image, block)
        made = image.get(process, CONTEXT)
        self.assertEqual(image.items(process), [made, 0, of_int(1), of_int(0), 0])
        self.assertEqual(image.items(made), [0, method, of_int(2), of_int(0), of_int(7), context, descriptor] + [0] * 5)
        self.assertEqual([ready(image), home_of(image, made), image.space.held()], [[process], context, 2])

    def test_the_greatest_number(self):
        image, _ = three()
        method = image.space.root(9)
        image.space.set_root(5, of_int(GREATEST - 1))
        last = spawn(image, method, 0, [0])
        self.assertEqual([number_of(image, last), image.space.root(5)], [GREATEST - 1, of_int(GREATEST)])
        block = image.array_of("Block", [image.get(last, CONTEXT), image.array([of_int(0)] * 4)])
        image.space.hold(block)
        before = [whole(image), image.space.allocations]
        for action in (lambda: spawn(image, method, 0, [0]), lambda: spawn_block(image, block)):
            with self.assertRaises(NoNumber) as caught:
                action()
            self.assertEqual(caught.exception.limit, GREATEST)
            self.assertEqual([whole(image), image.space.allocations], before)

    def test_what_is_passed_needs_not_be_reached(self):
        image, _ = three()
        image.space.press([], always=True)
        word = image.array([of_int(3)])
        process = spawn(image, image.space.root(9), 0, [word])
        self.assertEqual(image.items(image.get(image.get(process, CONTEXT), 7)), [of_int(3)])

    def test_a_block_needs_not_be_reached(self):
        image = machine()
        method = image.space.hold(install(image, image.kernel("Undefined"), "f ^[7]"))
        context = image.space.hold(method_context(image, 0, method, of_int(8), []))
        block = image.array_of("Block", [context, image.get(image.get(method, 4), 0)])
        image.space.drop(2)
        image.space.press([], always=True)
        process = spawn_block(image, block)
        image.space.collect()
        made = image.get(process, CONTEXT)
        self.assertEqual([image.get(home_of(image, made), 4), image.get(made, 4)], [of_int(8), of_int(8)])
        run(image)
        self.assertEqual(image.trace, [("end", 1, ("value", ("int", 7)))])

    def test_want(self):
        def make(image):
            spawn(image, image.space.root(9), 0, [of_int(5)])

        # The context is made before the process.
        self.assertEqual(check_want_of_room(self, lambda: three()[0], make), [7 + 1 + 1, 5])
        check_want_of_numbers(self, lambda: three()[0], make)

    def test_want_for_a_block(self):
        def build():
            image = machine()
            method = install(image, image.kernel("Undefined"), "f ^[| a b | self a: a b: b]")
            context = image.space.hold(method_context(image, 0, method, of_int(7), []))
            block = image.array_of("Block", [context, image.get(image.get(method, 4), 0)])
            image.space.set_root(9, block)
            image.space.drop(1)
            return image

        def make(image):
            spawn_block(image, image.space.root(9))

        self.assertEqual(check_want_of_room(self, build, make), [7 + 2 + 3, 5])
        check_want_of_numbers(self, build, make)


class Choosing(unittest.TestCase):
    def test_by_number(self):
        for number in (0, 1, 2, 3, 4, 5, 300, 1 << 70):
            image, processes = three()
            self.assertIsNone(choose(image, number))
            chosen = processes.pop(number % 3)
            self.assertEqual([running(image), ready(image)], [chosen, processes])
            self.assertEqual([image.get(chosen, NEXT), image.get(chosen, STATE)], [0, of_int(0)])
            self.assertEqual([image.space.root(3), image.space.root(4)], [processes[0], processes[-1]])
            self.assertEqual(image.get(processes[-1], NEXT), 0)
            self.assertEqual(current(image), image.get(chosen, CONTEXT))

    def test_the_only_one(self):
        for number in (0, 7):
            image = machine()
            process = started(image, "f ^1")
            choose(image, number)
            self.assertEqual([running(image), ready(image), image.space.root(3), image.space.root(4)], [process, [], 0, 0])

    def test_giving_way(self):
        image, processes = three()
        choose(image, 1)
        self.assertIsNone(give_way(image))
        self.assertEqual([running(image), ready(image)], [0, [processes[0], processes[2], processes[1]]])
        choose(image, 0)
        give_way(image)
        self.assertEqual(ready(image), [processes[2], processes[1], processes[0]])
        self.assertEqual([image.get(process, STATE) for process in processes], [of_int(0)] * 3)

    def test_giving_way_alone(self):
        image = machine()
        process = started(image, "f ^1")
        choose(image, 0)
        give_way(image)
        self.assertEqual([running(image), ready(image), image.get(process, NEXT)], [0, [process], 0])

    def test_a_new_one_stands_behind_those_that_gave_way(self):
        image, processes = three()
        choose(image, 0)
        give_way(image)
        last = spawn(image, image.space.root(9), 0, [0])
        self.assertEqual(ready(image), processes[1:] + [processes[0], last])


class Semaphores(unittest.TestCase):
    def slots(self, image):
        return image.items(image.space.root(10))

    def test_a_count(self):
        image, processes, semaphore = with_semaphore(2)
        choose(image, 0)
        for count in (1, 0):
            self.assertIsNone(wait(image, semaphore))
            self.assertEqual(self.slots(image), [of_int(count), 0, 0])
            self.assertEqual([running(image), image.get(processes[0], STATE)], [processes[0], of_int(0)])
        wait(image, semaphore)
        self.assertEqual([running(image), self.slots(image)], [0, [of_int(0), processes[0], processes[0]]])

    def test_several_that_wait(self):
        image, processes, semaphore = with_semaphore()
        for k in (1, 0, 0):
            choose(image, k)
            wait(image, semaphore)
            self.assertEqual(running(image), 0)
        order = [processes[1], processes[0], processes[2]]
        self.assertEqual(self.slots(image), [of_int(0), order[0], order[2]])
        self.assertEqual([image.get(process, NEXT) for process in order], order[1:] + [0])
        self.assertEqual([image.get(process, STATE) for process in order], [of_int(1)] * 3)
        self.assertEqual([ready(image), image.space.root(4)], [[], 0])
        for k, process in enumerate(order):
            self.assertIsNone(signal(image, semaphore))
            self.assertEqual(ready(image), order[:k + 1])
            self.assertEqual([image.get(process, STATE), image.get(process, NEXT)], [of_int(0), 0])
            rest = order[k + 1:]
            self.assertEqual(self.slots(image), [of_int(0)] + ([rest[0], rest[-1]] if rest else [0, 0]))
        signal(image, semaphore)
        self.assertEqual([self.slots(image), ready(image)], [[of_int(1), 0, 0], order])

    def test_a_signal_puts_behind_the_ready_ones(self):
        image, processes, semaphore = with_semaphore()
        choose(image, 0)
        wait(image, semaphore)
        choose(image, 0)
        signal(image, semaphore)
        self.assertEqual([running(image), ready(image)], [processes[1], [processes[2], processes[0]]])

    def test_a_signal_without_those_that_wait(self):
        image, processes, semaphore = with_semaphore()
        choose(image, 0)
        for count in (1, 2, 3):
            image.put(semaphore, 0, of_int(count))
            before = list(image.store().words)
            image.put(semaphore, 0, of_int(count - 1))
            signal(image, semaphore)
            self.assertEqual([self.slots(image), running(image)], [[of_int(count), 0, 0], processes[0]])
            # Nothing else has changed.
            self.assertEqual([image.store().words, ready(image)], [before, processes[1:]])

    def test_a_full_semaphore(self):
        image, _, semaphore = with_semaphore(GREATEST - 1)
        choose(image, 0)
        signal(image, semaphore)
        self.assertEqual(self.slots(image), [of_int(GREATEST), 0, 0])
        before = whole(image)
        with self.assertRaises(Trouble) as caught:
            signal(image, semaphore)
        self.assertEqual([caught.exception.what, whole(image)], [("overflow",), before])
        wait(image, semaphore)
        self.assertEqual(self.slots(image), [of_int(GREATEST - 1), 0, 0])

    def test_two_semaphores(self):
        image, processes, one = with_semaphore()
        other = image.space.hold(image.array_of("Semaphore", [of_int(0), 0, 0]))
        for semaphore in (one, other, one):
            choose(image, 0)
            wait(image, semaphore)
        self.assertEqual(image.items(other), [of_int(0), processes[1], processes[1]])
        self.assertEqual(self.slots(image), [of_int(0), processes[0], processes[2]])
        signal(image, other)
        signal(image, one)
        self.assertEqual(ready(image), [processes[1], processes[0]])

    def test_one_that_waits_for_the_second_time(self):
        image, processes, semaphore = with_semaphore()
        choose(image, 0)
        wait(image, semaphore)
        signal(image, semaphore)
        choose(image, 2)
        self.assertEqual(running(image), processes[0])
        wait(image, semaphore)
        self.assertEqual(self.slots(image), [of_int(0), processes[0], processes[0]])

    def test_nothing_is_made(self):
        image, _, semaphore = with_semaphore()
        image.space.collect()
        image.store().room = image.store().used()
        choose(image, 0)
        give_way(image)
        choose(image, 0)
        wait(image, semaphore)
        choose(image, 0)
        signal(image, semaphore)
        self.assertEqual(len(ready(image)), 2)


class Programs(unittest.TestCase):
    def shows(self, source, choices=()):
        return [(row[1], row[2][1]) for row in traced(source, choices) if row[0] == "show"]

    def test_the_semaphore_is_the_answer_of_wait(self):
        image = machine()
        process = started(image, "f | s | s := Semaphore new. [s signal] fork. ^s wait == s")
        while image.get(process, STATE) == of_int(0):
            if not running(image):
                choose(image, 0)
            step(image)
        self.assertEqual(image.class_of(peek(image, image.get(process, CONTEXT), 0)), image.kernel("Semaphore"))
        run(image)
        self.assertEqual(image.trace[-1], ("end", 1, ("value", ("true",))))

    def test_they_take_turns(self):
        source = "f [2 show. self yield. 3 show] fork. 1 show. self yield. 4 show"
        self.assertEqual(self.shows(source), [(1, 1), (2, 2), (1, 4), (2, 3)])
        self.assertEqual(self.shows(source, [0, 1, 0]), [(1, 1), (1, 4), (2, 2), (2, 3)])

    def test_the_order_of_waiting(self):
        source = """f | s | s := Semaphore new. [s wait. #a show] fork. [s wait. #b show] fork. [s wait. #c show] fork.
            self yield. s signal. s signal. #m show. s signal"""
        self.assertEqual(self.shows(source), [(1, "m"), (2, "a"), (3, "b"), (4, "c")])
        # Those behind were chosen before.
        self.assertEqual(self.shows(source, [0, 2, 1, 0, 0]), [(1, "m"), (4, "c"), (3, "b"), (2, "a")])

    def test_signals_before_waits(self):
        source = "f | s | s := Semaphore new. s signal. s signal. [s wait. s wait. #a show. s wait. #b show] fork. self yield. #m show"
        self.assertEqual(self.shows(source), [(2, "a"), (1, "m")])

    def test_a_process_as_an_answer(self):
        image = point_image()
        self.assertEqual(traced("f ^[] fork", image=image)[0], ("end", 1, ("value", ("object", "Process"))))
        self.assertEqual(image.trace[1], ("end", 2, ("value", ("nil",))))


class Ending(unittest.TestCase):
    def test_a_value(self):
        image = machine()
        process = started(image, "f ^#done")
        other = started(image, "g ^2")
        choose(image, 0)
        step(image)
        step(image)
        self.assertEqual([running(image), ready(image)], [0, [other]])
        self.assertEqual(image.items(process), [0, 0, of_int(1), of_int(2), image.symbol("done")])
        self.assertEqual(image.trace, [("end", 1, ("value", ("symbol", "done")))])

    def test_an_error(self):
        image = machine()
        process = started(image, "f ^1 // 0")
        run(image)
        self.assertEqual(image.items(process), [0, 0, of_int(1), of_int(2), 0])
        self.assertEqual(image.trace, [("end", 1, ("error", "zero"))])

    def test_an_error_with_a_text(self):
        image = machine()
        started(image, "f ^1 at: 2 put: 3")
        started(image, "f ^nil foo")
        run(image)
        self.assertEqual(image.trace, [("end", 1, ("error", "unknown", "at:put:")), ("end", 2, ("error", "unknown", "foo"))])

    def test_an_object_as_the_result(self):
        image = point_image()
        process = started(image, "f ^Point new")
        run(image)
        self.assertEqual(image.trace, [("end", 1, ("value", ("object", "Point")))])
        self.assertEqual(image.class_of(image.get(process, RESULT)), image.class_named("Point"))

    def test_the_number_goes_on(self):
        image = machine()
        started(image, "f ^1")
        run(image)
        self.assertEqual(number_of(image, started(image, "f ^1")), 2)

    def test_a_process_that_runs(self):
        image = machine()
        process = started(image, "f ^1")
        choose(image, 0)
        row = image.items(process)
        self.assertEqual(row, [current(image), 0, of_int(1), of_int(0), 0])


class Shown(unittest.TestCase):
    def test_each_kind_of_word(self):
        image = point_image()
        cases = [(of_int(7), ("int", 7)), (of_int(LEAST), ("int", LEAST)), (of_int(GREATEST), ("int", GREATEST)),
                 (of_int(0), ("int", 0)), (image.symbol("a b"), ("symbol", "a b")), (image.symbol(""), ("symbol", "")),
                 (0, ("nil",)), (2, ("true",)), (4, ("false",)), (image.class_named("Point"), ("object", "Class")),
                 (image.kernel("Class"), ("object", "Class")), (instance(image, "Spot"), ("object", "Spot")),
                 (image.array([]), ("object", "Array")), (image.association("Spot"), ("object", "Association"))]
        for word, told in cases:
            self.assertEqual(shown(image, word), told)

    def test_nothing_changes(self):
        image = point_image()
        before = picture(image)
        shown(image, image.kernel("Array"))
        self.assertEqual([picture(image), image.trace], [before, []])

    def test_a_class_that_is_defined_later(self):
        image = machine()
        define_class(image, "Late", "Object", ["a"])
        self.assertEqual(shown(image, instance(image, "Late")), ("object", "Late"))


if __name__ == "__main__":
    unittest.main()
