"""Worlds: points 22.1 to 22.4."""

import random
import unittest

from saggar.comparing import alike_images
from saggar.errors import BadMethod, NoNumber, NoRoom
from saggar.faults import fault_of
from saggar.images import saved
from saggar.kernel import KERNEL
from saggar.lookup import own_method, selectors
from saggar.methods import source_of
from saggar.primitives import PRIMITIVES
from saggar.processes import ready, running
from saggar.words import GREATEST, of_int
from saggar.worlds import PRELUDE, World, fresh_image, run_script, start
from tests.images import close_up_numbers, picture, sizes_made, whole
from tests.scripts import grow_commands, with_others

OTHERS = ("collect", "pressure", "reload")
TEXT = """Object: isNil ^ false
Object: yourself ^ self
Object: ~= other ^ (self = other) not
Undefined: isNil ^ true
True: not ^ false
True: and: block ^ block value
True: or: block ^ true
True: ifTrue: block ^ block value
True: ifFalse: block ^ nil
True: ifTrue: first ifFalse: second ^ first value
False: not ^ true
False: and: block ^ false
False: or: block ^ block value
False: ifTrue: block ^ nil
False: ifFalse: block ^ block value
False: ifTrue: first ifFalse: second ^ second value
Integer: <= other ^ (self > other) not
Integer: >= other ^ (self < other) not
Integer: max: other ^ self > other ifTrue: [self] ifFalse: [other]
Integer: min: other ^ self < other ifTrue: [self] ifFalse: [other]
Integer: timesRepeat: block | k | k := 0. [k < self] whileTrue: [block value. k := k + 1]
Integer: to: last do: block | k | k := self. [k > last] whileFalse: [block value: k. k := k + 1]
Array: do: block | k | k := 1. [k <= self size] whileTrue: [block value: (self at: k). k := k + 1]
Block: whileTrue: body [self value] whileTrue: [body value]
Block: whileFalse: body [self value not] whileTrue: [body value]"""


def value_of(source, room=20000):
    """Returns what comes of a source in a fresh image, and what it shows."""
    answers, trace = run_script(room, 4000, [("start", "go " + source), ("run", (), 100000)])
    assert answers == [("started", 1), ("done",)], answers
    return trace[-1][2], [row[2] for row in trace[:-1]]


class Fresh(unittest.TestCase):
    def test_the_text(self):
        self.assertEqual("\n".join(name + ": " + source for name, source in PRELUDE), TEXT)
        self.assertIsInstance(PRELUDE, tuple)

    def test_what_is_there(self):
        image = fresh_image(4000, 1000)
        self.assertEqual([image.store().room, image.store().entries, image.global_names()], [4000, 1000, list(KERNEL)])
        self.assertEqual([image.trace, image.space.held(), running(image), ready(image)], [[], 0, 0, []])
        told = {(name, source.split(" ")[0] if ":" not in source.split(" ")[0] else None) for name, source in PRELUDE}
        self.assertGreater(len(told), 10)
        for name, source in PRELUDE:
            found = [selector for selector in selectors(image, image.kernel(name))
                     if own_method(image, image.kernel(name), image.symbol(selector)) % 4 != 1
                     and source_of(image, own_method(image, image.kernel(name), image.symbol(selector))) == source]
            self.assertEqual(len(found), 1, source)
        counts = {name: len(selectors(image, image.kernel(name))) for name in KERNEL}
        for name in KERNEL:
            wanted = sum(1 for row in PRIMITIVES if row[0] == name) + sum(1 for row in PRELUDE if row[0] == name)
            self.assertEqual(counts[name], wanted + (name == "Block"))
        self.assertIsNone(fault_of(image))

    def test_in_order(self):
        image = fresh_image(4000, 1000)
        self.assertEqual(selectors(image, image.kernel("True")),
                         ["not", "and:", "or:", "ifTrue:", "ifFalse:", "ifTrue:ifFalse:"])
        self.assertEqual(selectors(image, image.kernel("Integer"))[8:], ["<=", ">=", "max:", "min:", "timesRepeat:", "to:do:"])


VALUES = [
    ("^3 isNil", ("false",)), ("^nil isNil", ("true",)), ("^#a yourself", ("symbol", "a")), ("^3 ~= 4", ("true",)), ("^3 ~= 3", ("false",)),
    ("^Object new isNil", ("false",)), ("^Object isNil", ("false",)), ("^nil ~= nil", ("false",)),
    ("^true not", ("false",)), ("^false not", ("true",)), ("^true and: [3]", ("int", 3)), ("^false and: [3]", ("false",)),
    ("^true or: [3]", ("true",)), ("^false or: [3]", ("int", 3)), ("^false and: [nil foo]", ("false",)), ("^true or: [nil foo]", ("true",)),
    ("| b | b := [4]. ^true ifTrue: b", ("int", 4)), ("| b | b := [4]. ^false ifTrue: b", ("nil",)),
    ("| b | b := [4]. ^true ifFalse: b", ("nil",)), ("| b | b := [4]. ^false ifFalse: b", ("int", 4)),
    ("| b c | b := [4]. c := [5]. ^true ifTrue: b ifFalse: c", ("int", 4)),
    ("| b c | b := [4]. c := [5]. ^false ifTrue: b ifFalse: c", ("int", 5)),
    ("^3 <= 3", ("true",)), ("^4 <= 3", ("false",)), ("^2 <= 3", ("true",)), ("^3 >= 3", ("true",)), ("^2 >= 3", ("false",)),
    ("^4 >= 3", ("true",)), ("^3 max: 4", ("int", 4)), ("^4 max: 3", ("int", 4)), ("^-3 min: 4", ("int", -3)), ("^4 min: -3", ("int", -3)),
    ("^3 timesRepeat: [9]", ("int", 3)), ("^1 to: 3 do: [:k | k]", ("int", 1)), ("^(Array new: 2) do: [:e | e]", ("object", "Array")),
    ("| b | b := [false]. ^b whileTrue: [1]", ("object", "Block")), ("| b | b := [true]. ^b whileFalse: [1]", ("object", "Block")),
    ("^[^7] whileFalse: [1]", ("int", 7))]
SHOWS = [
    ("3 timesRepeat: [#a show]", [("symbol", "a")] * 3), ("0 timesRepeat: [#a show]", []), ("-2 timesRepeat: [#a show]", []),
    ("2 to: 4 do: [:k | k show]", [("int", 2), ("int", 3), ("int", 4)]), ("4 to: 2 do: [:k | k show]", []),
    ("| a | a := Array new: 3. a at: 2 put: 5. a do: [:e | e show]", [("nil",), ("int", 5), ("nil",)]),
    ("(Array new: 0) do: [:e | e show]", []),
    ("| k b | k := 0. b := [k < 2]. b whileTrue: [k := k + 1. k show]", [("int", 1), ("int", 2)]),
    ("| k | k := 0. [k > 1] whileFalse: [k := k + 1. k show]", [("int", 1), ("int", 2)])]


class FirstMethods(unittest.TestCase):
    def test_answers(self):
        for source, value in VALUES:
            self.assertEqual(value_of(source)[0], ("value", value), source)

    def test_shows(self):
        for source, shows in SHOWS:
            self.assertEqual(value_of(source)[1], shows, source)

    def test_all_of_them_are_tried(self):
        text = " ".join(source for source, _ in VALUES + SHOWS)
        for _, source in PRELUDE:
            word = source.split(" ")[0]
            self.assertIn(word, text)

    def test_in_a_small_room(self):
        # What is garbage is freed again and again.
        self.assertEqual(value_of("| s | s := 0. 1 to: 300 do: [:k | s := s + k]. ^s", 4000)[0], ("value", ("int", 45150)))

    def test_errors(self):
        for source, error in (("^3 <= nil", ("error", "integer")), ("^nil max: 3", ("error", "unknown", "max:")),
                              ("^3 timesRepeat: [:k | k]", ("error", "arguments")), ("^nil and: [3]", ("error", "unknown", "and:")),
                              ("| b | b := [3]. ^b whileTrue: [1]", ("error", "test")), ("| b | b := [3]. ^b whileFalse: [1]",
                                                                                      ("error", "unknown", "not"))):
            self.assertEqual(value_of(source)[0], error, source)


class Starting(unittest.TestCase):
    def test_start(self):
        image = fresh_image(4000, 1000)
        before = selectors(image, image.kernel("Undefined"))
        self.assertEqual([start(image, "go ^self show"), start(image, "go ^2")], [1, 2])
        self.assertEqual(selectors(image, image.kernel("Undefined")), before)
        self.assertEqual([len(ready(image)), running(image), image.space.held()], [2, 0, 0])
        method = image.get(image.get(ready(image)[0], 0), 1)
        self.assertEqual([image.get(method, 1), source_of(image, method)], [image.kernel("Undefined"), "go ^self show"])
        self.assertIsNone(fault_of(image))

    def test_refused(self):
        for source, selector in (("go ^", ""), ("go ^nothing", "go"), ("", ""), ("go | a a |", "go"), ("x" * 4001, "")):
            image = fresh_image(4000, 1000)
            before = whole(image)
            with self.assertRaises(BadMethod) as caught:
                start(image, source)
            self.assertEqual([caught.exception.owner, caught.exception.selector, whole(image)], ["Undefined", selector, before])

    def test_want_of_room(self):
        sizes = sizes_made(fresh_image(4000, 1000), lambda image: start(image, "go ^[:k | #a] value: 3"))
        # The Array of the block, the code, the literals, the method, the context, the process.
        self.assertEqual(len(sizes), 6)
        for k, size in enumerate(sizes):
            image = fresh_image(4000, 1000)
            before = whole(image)
            image.store().room = image.space.live_words() + sum(3 + other for other in sizes[:k + 1]) - 1
            with self.assertRaises(NoRoom) as caught:
                start(image, "go ^[:k | #a] value: 3")
            self.assertEqual([caught.exception.need, whole(image)], [3 + size, before])
            self.assertIsNone(fault_of(image))
        image.store().room = image.space.live_words() + sum(3 + size for size in sizes)
        image.space.press([], always=True)
        self.assertEqual(start(image, "go ^[:k | #a] value: 3"), 1)

    def test_want_of_numbers(self):
        image = fresh_image(4000, 1000)
        close_up_numbers(image)
        before, count = whole(image), len(image.store().numbers())
        for extra in range(5):
            image.store().entries = count + extra
            with self.assertRaises(NoNumber):
                start(image, "go ^1")
            self.assertEqual(whole(image), before)
        image.store().entries = count + 5
        self.assertEqual(start(image, "go ^1"), 1)
        image = fresh_image(4000, 1000)
        image.space.set_root(5, of_int(GREATEST))
        with self.assertRaises(NoNumber):
            start(image, "go ^1")


class Commands(unittest.TestCase):
    def world(self, *commands):
        world = World(fresh_image(9000, 2000))
        for command in (("class", "Point", "Object", ("x", "y")), ("global", "Home"), ("method", "Point", "x ^x")) + commands:
            self.assertIn(world.obey(command)[0], ("ok", "started"))
        return world

    def refused(self, command, *answer):
        world = self.world(("start", "go Home := Point new. ^Home x"))
        before = whole(world.image)
        image = world.image
        self.assertEqual(world.obey(command), ("refused",) + answer)
        self.assertIs(world.image, image)
        self.assertEqual(whole(world.image), before)
        self.assertIsNone(fault_of(world.image))

    def test_classes_and_globals(self):
        world = self.world()
        self.assertEqual(world.obey(("class", "Spot", "Point", ("colour",))), ("ok",))
        self.assertEqual(world.obey(("global", "Other")), ("ok",))
        self.assertEqual(world.image.global_names()[15:], ["Point", "Home", "Spot", "Other"])
        self.assertEqual(world.image.fields(world.image.class_named("Spot")), ["x", "y", "colour"])
        for command, why in ((("class", "spot", "Point", ()), "name"), (("class", "Home", "Point", ()), "name"),
                             (("class", "Spot", "Home", ()), "super"), (("class", "Spot", "Array", ()), "super"),
                             (("class", "Spot", "Point", ("X",)), "field"), (("class", "Spot", "Point", ("x",)), "twice"),
                             (("class", "Spot", "Object", tuple("f" + str(k) for k in range(33))), "many"),
                             (("global", "Point"), "name"), (("global", "home"), "name")):
            self.refused(command, "class", why)

    def test_methods(self):
        world = self.world()
        self.assertEqual(world.obey(("method", "Point", "y ^y")), ("ok",))
        self.assertEqual(world.obey(("method", "Object", "+ other ^other")), ("ok",))
        self.assertEqual(selectors(world.image, world.image.class_named("Point")), ["x", "y"])
        self.refused(("method", "Nobody", "f ^1"), "class", "name")
        self.refused(("method", "Home", "f ^"), "class", "name")
        self.refused(("method", "Point", "f ^"), "method", "")
        self.refused(("method", "Point", "at: k ^nothing"), "method", "at:")

    def test_reshape(self):
        world = self.world(("start", "go Home := Point new. nil yield. ^Home x"), ("method", "Point", "y: k y := k"))
        self.assertEqual(world.obey(("reshape", "Point", "Object", ("z", "y", "x"))), ("ok",))
        self.assertEqual(world.image.fields(world.image.class_named("Point")), ["z", "y", "x"])
        for command, answer in ((("reshape", "Nobody", "Object", ()), ("class", "name")), (("reshape", "Array", "Object", ()), ("class", "kernel")),
                                (("reshape", "Point", "Point", ()), ("class", "ring")), (("reshape", "Point", "Array", ()), ("class", "super")),
                                (("reshape", "Point", "Object", ("x", "x")), ("class", "twice")),
                                (("reshape", "Point", "Object", ("y",)), ("method", "x"))):
            self.refused(command, *answer)

    def test_start_and_run(self):
        world = self.world()
        self.assertEqual(world.obey(("start", "go ^self show")), ("started", 1))
        self.assertEqual(world.obey(("start", "go 2 show. nil yield. ^3")), ("started", 2))
        self.assertEqual([world.obey(("run", (1,), 0)), world.obey(("run", (1,), 2))], [("weary",), ("weary",)])
        self.assertEqual(world.obey(("run", (), 1000)), ("done",))
        self.assertEqual(world.image.trace, [("show", 2, ("int", 2)), ("show", 1, ("nil",)), ("end", 1, ("value", ("nil",))),
                                             ("end", 2, ("value", ("int", 3)))])
        self.refused(("start", "go ^"), "method", "")
        self.refused(("start", "go ^Nobody"), "method", "go")

    def test_no_room(self):
        world = self.world(("start", "go ^Array new: 10000"))
        self.assertEqual([world.obey(("run", (), 1000)), world.obey(("run", (), 1000))], [("no room",), ("no room",)])
        self.assertEqual([world.obey(("collect",)), world.obey(("reload",)), world.obey(("run", [], 7))], [("ok",), ("ok",), ("no room",)])

    def test_want_of_room(self):
        for command in (("class", "Spot", "Point", ("colour",)), ("global", "Other"), ("method", "Point", "f ^[1]"),
                        ("reshape", "Point", "Object", ("y", "x")), ("start", "go ^1")):
            for narrow in range(3):
                world = self.world()
                image = world.image
                if narrow == 0:
                    image.store().room = image.space.live_words()
                elif narrow == 1:
                    close_up_numbers(image)
                    image.store().entries = len(image.store().numbers())
                else:
                    image.symbols.most = image.symbols.count()
                    command = tuple(part if part != ("y", "x") else ("newest", "x") for part in command)
                before = whole(image)
                self.assertEqual(world.obey(command), ("refused", "room"), (command, narrow))
                self.assertEqual(whole(image), before)

    def test_collect(self):
        world = self.world()
        world.image.array([5])
        self.assertEqual(world.obey(("collect",)), ("ok",))
        self.assertEqual(world.image.store().used(), world.image.space.live_words())

    def test_pressure(self):
        world = self.world()
        for always in (True, False):
            self.assertEqual(world.obey(("pressure", always)), ("ok",))
            self.assertIs(world.image.space.always, always)
            before = world.image.space.collections
            world.image.array([5])
            world.image.array([5])
            self.assertEqual(world.image.space.collections - before, 2 if always else 0)
        for always in (True, False):
            world.obey(("pressure", always))
            world.obey(("reload",))
            self.assertIs(world.image.space.always, always)

    def test_reload(self):
        world = self.world(("start", "go 1 show. nil yield. ^2"))
        world.obey(("run", (), 5))
        before, numbers, trace = world.image, saved(world.image), world.image.trace[:]
        self.assertEqual(world.obey(("reload",)), ("ok",))
        self.assertIsNot(world.image, before)
        self.assertEqual([saved(world.image), world.image.trace, world.image.space.allocations], [numbers, trace, 0])
        self.assertTrue(alike_images(world.image, before))
        self.assertEqual(world.obey(("run", (), 100)), ("done",))
        # The image before stays as it was.
        self.assertEqual([saved(before), before.trace], [numbers, trace])
        self.assertEqual(len(world.image.trace), 2)

    def test_the_image_that_is_passed(self):
        image = fresh_image(4000, 1000)
        world = World(image)
        self.assertIs(world.image, image)
        world.obey(("global", "Home"))
        self.assertEqual(image.global_names()[-1], "Home")

    def test_commands_stay(self):
        commands = [("class", "Point", "Object", ("x",)), ("start", "go ^1"), ("run", (3, 4), 5)]
        before = list(commands)
        first = run_script(4000, 1000, commands)
        self.assertEqual([commands, run_script(4000, 1000, commands)], [before, first])
        self.assertIsInstance(first, tuple)
        self.assertEqual(run_script(4000, 1000, []), ([], []))


def shown_of(commands, answers):
    """Returns what comes of the commands but collect, pressure and reload."""
    return [answer for command, answer in zip(commands, answers) if command[0] not in OTHERS]


class MainPromise(unittest.TestCase):
    """Point 22.4: collect, pressure and reload, and the room, change nothing that is shown."""

    SEEDS = range(5)

    def test_whatever_stands_between(self):
        kinds = {}
        for seed in self.SEEDS:
            chance = random.Random(seed)
            commands = grow_commands(chance)
            answers, trace = run_script(60000, 9000, commands)
            for answer in answers:
                kinds[answer[:2]] = kinds.get(answer[:2], 0) + 1
            self.assertNotIn(("refused", "room"), answers)
            for room, entries, rate in ((60000, 9000, 0.3), (40000, 60000, 0.05), (1000000, 100000, 0.6)):
                others = with_others(commands, chance, rate)
                found, other_trace = run_script(room, entries, others)
                self.assertEqual([shown_of(others, found), other_trace], [answers, trace], seed)
                self.assertTrue(all(answer == ("ok",) for command, answer in zip(others, found) if command[0] in OTHERS))
        for kind in (("ok",), ("weary",), ("done",), ("refused", "class"), ("refused", "method"), ("started", 3)):
            self.assertGreater(kinds.get(kind, 0), 1, kinds)

    def test_a_reload_behind_each_step(self):
        for seed in (3,):
            chance = random.Random(seed)
            commands = []
            for command in grow_commands(chance):
                steps = command[2] if command[0] == "run" else 0
                commands += [("run", command[1][:1], 1)] * min(steps, 25) if steps else [command]
            answers, trace = run_script(60000, 9000, commands)
            others = []
            for command in commands:
                others += [command, ("reload",)]
            found, other_trace = run_script(30000, 8000, others)
            self.assertEqual([shown_of(others, found), other_trace], [answers, trace])

    def test_in_just_enough_room(self):
        for seed in (5,):
            commands = grow_commands(random.Random(seed))
            answers, trace = run_script(60000, 9000, commands)
            low, high = 4000, 60000
            # The least room in which nothing is refused; more is as good.
            while low < high:
                room = (low + high) // 2
                found, _ = run_script(room, 9000, commands)
                if ("refused", "room") in found or ("no room",) in found:
                    low = room + 1
                else:
                    high = room
            for room in (low, low + 1, low + 57):
                chance = random.Random(seed)
                others = with_others(commands, chance, 0.4)
                found, other_trace = run_script(room, 9000, others)
                self.assertEqual([shown_of(others, found), other_trace], [answers, trace])
            found, _ = run_script(low - 1, 9000, with_others(commands, random.Random(seed), 0.4))
            self.assertTrue(("refused", "room") in found or ("no room",) in found)

    def test_in_order_behind_each_command(self):
        for seed in (2, 7):
            chance = random.Random(seed)
            world = World(fresh_image(60000, 9000))
            for command in with_others(grow_commands(chance), chance, 0.1):
                world.obey(command)
                self.assertIsNone(fault_of(world.image), command)
                self.assertEqual(world.image.space.held(), 0)

    def test_alike_worlds(self):
        for seed in (4, 8):
            chance = random.Random(seed)
            one, other = World(fresh_image(60000, 9000)), World(fresh_image(60000, 9000))
            for command in grow_commands(chance):
                self.assertEqual(one.obey(command), other.obey(command))
                for extra in with_others([], chance, 0.4):
                    other.obey(extra)
                self.assertTrue(alike_images(one.image, other.image))
                self.assertEqual(picture(one.image), picture(other.image))
            self.assertEqual(one.image.trace, other.image.trace)


if __name__ == "__main__":
    unittest.main()
