"""Returning: points 17.3 and 17.4."""

import unittest

from saggar.contexts import FIXED, PC, SENDER, TOP, block_context, method_context, push, stack_of
from saggar.errors import Trouble
from saggar.methods import install
from saggar.processes import choose, current, running
from saggar.returning import ENSURE, ENSURE_SOURCE, answer, return_from
from saggar.words import of_int
from tests.images import whole
from tests.machines import machine, result_of, started, traced


def chain(places):
    """Returns an image that runs contexts, and these, the innermost first.

    A place is that of a context of ensure:, or None for one of another method.
    """
    image = machine()
    image.space.set_root(9, install(image, image.kernel("Undefined"), "f | a b | ^1 a: 2 b: 3"))
    started(image, "g ^1 a: 2 b: 3")
    choose(image, 0)
    contexts = [current(image)]
    for place in reversed(places):
        method = image.space.root(9 if place is None else ENSURE)
        context = image.space.hold(method_context(image, contexts[0], method, 0, [] if place is None else [of_int(8)]))
        if place is not None:
            image.put(context, PC, of_int(place))
        contexts.insert(0, context)
    image.put(running(image), 0, contexts[0])
    return image, contexts


class Answers(unittest.TestCase):
    def test_to_a_sender(self):
        image, contexts = chain([None, None])
        push(image, contexts[1], of_int(1))
        self.assertIsNone(answer(image, contexts[0], of_int(7)))
        self.assertEqual([current(image), stack_of(image, contexts[1])], [contexts[1], [of_int(1), of_int(7)]])
        # A context that has been left keeps its sender.
        self.assertEqual([image.get(contexts[0], SENDER), stack_of(image, contexts[2])], [contexts[1], []])

    def test_from_another_context(self):
        image, contexts = chain([None, None, None])
        answer(image, contexts[2], of_int(7))
        self.assertEqual([current(image), stack_of(image, contexts[3]), stack_of(image, contexts[1])], [contexts[3], [of_int(7)], []])

    def test_without_a_sender(self):
        image, contexts = chain([None])
        process = running(image)
        self.assertIsNone(answer(image, contexts[1], image.symbol("a")))
        self.assertEqual([running(image), image.items(process)], [0, [0, 0, of_int(1), of_int(2), image.symbol("a")]])
        self.assertEqual(image.trace, [("end", 1, ("value", ("symbol", "a")))])


class Homes(unittest.TestCase):
    def test_a_home_among_the_callers(self):
        for home in (0, 1, 2):
            image, contexts = chain([None, None, None])
            self.assertIsNone(return_from(image, contexts[0], contexts[home], of_int(7)))
            self.assertEqual([current(image), stack_of(image, contexts[home + 1])], [contexts[home + 1], [of_int(7)]])

    def test_a_home_without_a_sender(self):
        image, contexts = chain([None, None])
        return_from(image, contexts[0], contexts[2], of_int(7))
        self.assertEqual([running(image), image.trace], [0, [("end", 1, ("value", ("int", 7)))]])

    def test_a_home_that_is_left(self):
        image, contexts = chain([2, None])
        other = image.space.hold(method_context(image, contexts[0], image.space.root(9), 0, []))
        before = whole(image)
        for context, home in [(contexts[0], other), (contexts[1], contexts[0]), (0, contexts[0]), (0, other)]:
            with self.assertRaises(Trouble) as caught:
                return_from(image, context, home, of_int(7))
            self.assertEqual([caught.exception.what, whole(image)], [("gone",), before])


class Guards(unittest.TestCase):
    def check(self, places, home, guard):
        """Returns from a home; a guard must go on, or the sender of the home if it is None."""
        image, contexts = chain(places)
        if guard is not None:
            push(image, contexts[guard], of_int(55))
        before = [image.items(context) for context in contexts]
        return_from(image, contexts[0], contexts[home], of_int(7))
        if guard is None:
            self.assertEqual([current(image), stack_of(image, contexts[home + 1])], [contexts[home + 1], [of_int(7)]])
            before[home + 1] = image.items(contexts[home + 1])
        else:
            self.assertEqual(current(image), contexts[guard])
            row = before[guard]
            row[PC], row[TOP] = of_int(4), of_int(0)
            row[FIXED:FIXED + 3] = [of_int(8), of_int(7), contexts[home]]
            row[FIXED + 3:] = [0] * len(row[FIXED + 3:])
        self.assertEqual([image.items(context) for context in contexts], before)

    def test_one(self):
        self.check([None, 2, None], 2, 1)
        self.check([2, None, None], 2, 0)
        self.check([None, None, 2], 3, 2)

    def test_the_innermost_one(self):
        self.check([None, 2, 2, None], 3, 1)
        self.check([2, None, 2, None], 3, 0)
        self.check([None, 4, 2, None], 3, 2)

    def test_places_that_are_no_guards(self):
        for place in (0, 1, 3, 4, 5, 6, 7, 11):
            self.check([None, place, None], 2, None)

    def test_the_home_is_not_looked_at(self):
        self.check([None, 2, None], 1, None)
        self.check([2, None, None], 0, None)

    def test_guards_behind_the_home(self):
        self.check([None, None, 2], 1, None)

    def test_other_methods_are_no_guards(self):
        image, contexts = chain([None, None, None])
        image.put(contexts[1], PC, of_int(2))
        return_from(image, contexts[0], contexts[2], of_int(7))
        self.assertEqual(current(image), contexts[3])

    def test_an_ensure_that_is_not_the_one_of_the_root(self):
        image, contexts = chain([None, 2, None])
        image.space.set_root(ENSURE, install(image, image.kernel("Block"), ENSURE_SOURCE))
        return_from(image, contexts[0], contexts[2], of_int(7))
        self.assertEqual(current(image), contexts[3])

    def test_names(self):
        self.assertEqual(ENSURE, 8)
        self.assertEqual(ENSURE_SOURCE,
                         "ensure: aBlock | result home | result := self value. aBlock value. ^self finish: result for: home")


class Programs(unittest.TestCase):
    def shows(self, source):
        """Returns what is shown, and what comes of the process."""
        trace = traced(source)
        return [row[2][-1] for row in trace]

    def test_answers(self):
        self.assertEqual(result_of("f ^[3. 4] value + 1"), ("value", ("int", 5)))
        self.assertEqual(result_of("f [^3] value. ^4"), ("value", ("int", 3)))
        self.assertEqual(result_of("f [[[^3] value. 5] value. 6] value. ^4"), ("value", ("int", 3)))
        self.assertEqual(result_of("f 4"), ("value", ("nil",)))

    def test_a_return_leaves_the_methods_in_between(self):
        image = machine()
        install(image, image.kernel("Object"), "try: b b value. #not show. ^1")
        install(image, image.kernel("Object"), "go self try: [^2]. #nor show. ^3")
        self.assertEqual(traced("f ^self go + 10", image=image), [("end", 1, ("value", ("int", 12)))])

    def test_a_home_that_is_left(self):
        image = machine()
        install(image, image.kernel("Object"), "escape ^[^5]")
        self.assertEqual(result_of("f ^self escape value", image), ("error", "gone"))
        self.assertEqual(result_of("f ^[^5] fork"), ("error", "gone"))
        image = machine()
        install(image, image.kernel("Object"), "keep: b ^[b value]")
        install(image, image.kernel("Object"), "inner ^self keep: [^5]")
        self.assertEqual(result_of("f ^self inner value", image), ("error", "gone"))

    def test_ensure(self):
        self.assertEqual(self.shows("f ^[#a show. 3] ensure: [#b show. 4]"), ["a", "b", ("int", 3)])
        self.assertEqual(self.shows("f [#a show. ^3] ensure: [#b show. 4]. ^5"), ["a", "b", ("int", 3)])
        self.assertEqual(self.shows("f [[#a show. ^3] value. #c show] ensure: [#b show. 4]. ^5"), ["a", "b", ("int", 3)])

    def test_a_guard_in_a_block(self):
        trace = traced("start ^[[^7] ensure: [#late show]. 3] value + 1", image=machine(5000, 1000))
        self.assertEqual(trace, [("show", 1, ("symbol", "late")), ("end", 1, ("value", ("int", 7)))])

    def test_several(self):
        source = "f [[[^1] ensure: [#a show]] ensure: [#b show]] ensure: [#c show]. ^2"
        self.assertEqual(self.shows(source), ["a", "b", "c", ("int", 1)])
        source = "f ^[[[1] ensure: [#a show]] ensure: [#b show]] ensure: [#c show]"
        self.assertEqual(self.shows(source), ["a", "b", "c", ("int", 1)])

    def test_guards_of_other_methods(self):
        image = machine()
        install(image, image.kernel("Object"), "try: b ^[b value] ensure: [#a show]")
        install(image, image.kernel("Object"), "go [self try: [^2]] ensure: [#b show]. ^3")
        trace = traced("f | x | x := [self go] ensure: [#c show]. x show. ^x + 1", image=image)
        self.assertEqual([row[2][-1] for row in trace], ["a", "b", "c", 2, ("int", 3)])

    def test_a_return_in_the_second_block(self):
        # The first return is given up, and guards further out are still there.
        source = "f [[^1] ensure: [#a show. ^2]] ensure: [#b show]. ^3"
        self.assertEqual(self.shows(source), ["a", "b", ("int", 2)])
        self.assertEqual(self.shows("f [5] ensure: [#a show. ^2]. ^3"), ["a", ("int", 2)])

    def test_a_guard_in_the_second_block(self):
        source = "f [^1] ensure: [[#a show] ensure: [#b show]]. ^3"
        self.assertEqual(self.shows(source), ["a", "b", ("int", 1)])

    def test_the_second_block_is_carried_out_once(self):
        image = machine()
        install(image, image.kernel("Object"), "go: b ^[[[b value] ensure: [#a show]] value] ensure: [#b show]")
        self.assertEqual([row[2][-1] for row in traced("f self go: [^4]. ^5", image=image)], ["a", "b", ("int", 4)])

    def test_errors_carry_out_none(self):
        self.assertEqual(traced("f [[1 // 0] ensure: [#a show]] ensure: [#b show]"), [("end", 1, ("error", "zero"))])
        self.assertEqual(traced("f [^1] ensure: [nil foo. #a show]"), [("end", 1, ("error", "unknown", "foo"))])
        image = machine()
        install(image, image.kernel("Object"), "escape ^[^5]")
        self.assertEqual(traced("f | b | b := self escape. [b value] ensure: [#a show]", image=image), [("end", 1, ("error", "gone"))])

    def test_a_guard_that_waits(self):
        source = "f | s | s := Semaphore new. [[s wait. ^1] ensure: [#a show]. ^2] value. ^3"
        image = machine()
        self.assertEqual(traced(source, image=image), [])
        source = "f | s | s := Semaphore new. [#b show. s signal] fork. [s wait. ^1] ensure: [#a show. self yield. #c show]. ^3"
        self.assertEqual([row[2][-1] for row in traced(source)], ["b", ("object", "Semaphore"), "a", "c", ("int", 1)])

    def test_finish_by_hand(self):
        self.assertEqual(result_of("f ^[] finish: 3 for: nil"), ("value", ("int", 3)))
        self.assertEqual(result_of("f ^[] finish: 3 for: 4"), ("error", "arguments"))
        self.assertEqual(result_of("f ^[] finish: 3 for: []"), ("error", "arguments"))

    def test_a_guard_whose_second_block_wants_arguments(self):
        self.assertEqual(traced("f [^1] ensure: [:a | #a show]"), [("end", 1, ("error", "arguments"))])
        self.assertEqual(traced("f [:a | ^1] ensure: [#a show]"), [("end", 1, ("error", "arguments"))])

    def test_contexts_of_blocks(self):
        image, contexts = chain([None])
        method = install(image, image.kernel("Undefined"), "h ^[3]")
        home = image.space.hold(method_context(image, contexts[0], method, 0, []))
        block = image.array_of("Block", [home, image.get(image.get(method, 4), 0)])
        context = image.space.hold(block_context(image, home, block, []))
        return_from(image, context, home, of_int(7))
        self.assertEqual([current(image), stack_of(image, contexts[0])], [contexts[0], [of_int(7)]])


if __name__ == "__main__":
    unittest.main()
