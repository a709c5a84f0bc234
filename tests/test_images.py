"""Images as numbers: points 21.1 to 21.7."""

import random
import unittest

from saggar.errors import BadImage
from saggar.faults import fault_of
from saggar.images import copied, loaded, saved
from saggar.kernel import define_class, define_global, new_image
from saggar.methods import install
from saggar.processes import running
from saggar.reshaping import reshape
from saggar.running import run_image
from saggar.words import GREATEST, LEAST, of_int
from tests.images import close_up_numbers, picture
from tests.machines import instance, machine, started
from tests.test_programs import PROGRAMS, image_for
from tests.test_running import ENDS, point_machine
from tests.test_states import scene


def plan_of(numbers):
    """Returns where the parts of the numbers of an image begin, as a second reading finds them."""
    symbols, at = [], 3
    for _ in range(numbers[2]):
        symbols.append(at)
        at += 1 + numbers[at]
    roots, count = at, at + 16
    objects, at = [], count + 1
    for _ in range(numbers[count]):
        objects.append(at)
        at += 2 + numbers[at]
    assert at == len(numbers)
    return symbols, roots, count, objects


def second_reading(image):
    """Returns the numbers of an image, found by following best paths."""
    store = image.store()
    order, waiting = [0, 1, 2], [image.space.root(k) for k in range(16)]
    at = 0
    while True:
        for word in waiting:
            if word % 2 == 0 and word // 2 not in order:
                order.append(word // 2)
        if at == len(order):
            break
        waiting = [store.kind(order[at])] + store.slots(order[at])
        at += 1

    def new(word):
        return 2 * order.index(word // 2) if word % 2 == 0 else word
    numbers = [store.room, store.entries, image.symbols.count()]
    for text in image.symbols.texts():
        numbers += [len(text)] + list(text.encode("ascii"))
    numbers += [new(image.space.root(k)) for k in range(16)] + [len(order)]
    for number in order:
        numbers += [store.size(number), new(store.kind(number))] + [new(word) for word in store.slots(number)]
    return numbers


def all_of(image):
    return [image.store().words[:], image.space.all_roots(), image.symbols.texts(), image.trace[:], image.space.allocations,
            image.space.collections, image.store().numbers()]


class Saving(unittest.TestCase):
    def test_a_new_image(self):
        numbers = saved(new_image(1000, 100))
        symbols, roots, count, objects = plan_of(numbers)
        self.assertEqual(numbers[:3], [1000, 100, 15])
        self.assertEqual([numbers[at] for at in symbols], [6, 5, 9, 4, 5, 7, 6, 5, 11, 6, 4, 5, 7, 7, 9])
        # Nil, true, false, the Array of the classes, that of the globals.
        self.assertEqual(numbers[roots:count], [6, 8, 0, 0, 0, 5, 2, 4, 0, 0, 0, 0, 0, 0, 0, 0])
        self.assertEqual(len(objects), 3 + 2 + 15 + 30 + 15)
        self.assertEqual([numbers[objects[k]] for k in range(5)], [0, 0, 0, 15, 15])
        # The classes of the first three are found behind what the roots refer to.
        self.assertEqual([numbers[objects[k] + 1] for k in range(3)], [10, 12, 14])

    def test_against_a_second_reading(self):
        images = [new_image(5000, 700), machine(), scene()]
        for seed in (1, 8):
            images.append(image_for(PROGRAMS[seed][0]))
            run_image(images[-1], PROGRAMS[seed][1], 300)
        for image in images:
            self.assertEqual(saved(image), second_reading(image))

    def test_texts(self):
        image = new_image(4000, 300)
        known = image.symbols.count()
        everything = "".join(chr(code) for code in [10] + list(range(32, 127)) if code != 37)
        for text in ("", everything, "a\nb"):
            image.symbol(text)
        numbers = saved(image)
        symbols = plan_of(numbers)[0]
        self.assertEqual(numbers[symbols[known]:symbols[known + 1]], [0])
        self.assertEqual(numbers[symbols[known + 1]:symbols[known + 2]], [95, 10] + [code for code in range(32, 127) if code != 37])
        self.assertEqual(numbers[symbols[known + 2]:symbols[known + 2] + 4], [3, 97, 10, 98])
        self.assertEqual(loaded(numbers).symbols.texts(), image.symbols.texts())

    def test_copies_with_traces(self):
        image = scene()
        copy = copied(image)
        self.assertEqual([saved(copy), copy.trace], [saved(image), image.trace])
        copy.trace.clear()
        self.assertEqual(len(image.trace), 3)

    def test_nothing_changes(self):
        image = scene()
        image.space.hold(image.array([5]))
        before = all_of(image)
        saved(image)
        self.assertEqual(all_of(image), before)

    def test_what_is_not_saved(self):
        image = machine()
        numbers = saved(image)
        image.space.hold(image.array([5]))
        image.array([7])
        image.trace.append(("show", 1, ("nil",)))
        image.space.press([4, 5], always=True)
        self.assertEqual(saved(image), numbers)

    def test_the_list_is_new(self):
        image = new_image(1000, 100)
        saved(image).clear()
        self.assertEqual(saved(image)[0], 1000)


def other_way(image, chance):
    """Lets the objects of an image lie in another order, with other numbers."""
    store = image.store()
    close_up_numbers(image)
    for _ in range(60):
        image.space.hold(2 * image.space.new(0, chance.randrange(3)))
    words, numbers = store.words[:], [number for number in store.numbers() if number > 2]
    others = numbers[:]
    chance.shuffle(others)
    moved = dict(zip(numbers, others))

    def new(word):
        return 2 * moved.get(word // 2, word // 2) if word % 2 == 0 else word
    rows = {moved.get(n, n): (new(store.kind(n)), [new(word) for word in store.slots(n)]) for n in store.numbers()}
    for number in store.numbers():
        store.drop(number)
    store.close_up()
    for number in sorted(rows):
        kind, slots = rows[number]
        assert store.allocate(kind, len(slots)) == number
        for at, word in enumerate(slots):
            store.put(number, at, word)
    for k in range(16):
        image.space.set_root(k, new(image.space.root(k)))
    image.space.drop(image.space.held())
    image.space.collect()
    return words != store.words


class Same(unittest.TestCase):
    """Point 21.3: the numbers do not depend on the numbers of objects, nor on collections."""

    def test_made_in_another_order(self):
        chance = random.Random(5)
        for build in (machine, scene, lambda: new_image(2000, 500)):
            plain, image = build(), build()
            self.assertTrue(other_way(image, chance))
            self.assertEqual(saved(image), saved(plain))

    def test_amid_other_objects(self):
        plain, image = machine(), machine()
        for k in range(100):
            image.space.hold(image.array([0] * (k % 3)))
        for other in (plain, image):
            define_class(other, "Point", "Object", ["x", "y"])
            other.put(other.association("Point"), 0, other.symbol("Point"))
        image.space.drop(50)
        image.space.collect()
        for other in (plain, image):
            install(other, other.class_named("Point"), "x ^[x]")
            started(other, "go | p | p := Point new. ^p x")
        image.space.drop(50)
        for other in (plain, image):
            run_image(other, [], 9)
        self.assertEqual(saved(image), saved(plain))

    def test_collections_and_copies_amid_programs(self):
        for seed in range(4, 60, 9):
            program, choices = PROGRAMS[seed]
            chance = random.Random(seed)
            plain, pressed, copy = image_for(program), image_for(program), image_for(program)
            pressed.space.press([], always=True)
            for _ in range(6):
                size = chance.randrange(1, 90)
                for image in (plain, pressed, copy):
                    run_image(image, choices, size)
                    # A copy starts again with choices.
                trace = copy.trace
                copy = loaded(saved(copy))
                copy.trace.extend(trace)
                numbers = saved(plain)
                self.assertEqual([saved(pressed), saved(copy)], [numbers, numbers])
                self.assertEqual([pressed.trace, copy.trace], [plain.trace, plain.trace])

    def test_changes_of_copies(self):
        image = point_machine()
        image.put(image.association("Shared"), 1, instance(image, "Point"))
        copy = loaded(saved(image))
        for other in (image, copy):
            other.space.press([], always=other is image)
            reshape(other, "Point", "Object", ["z", "x"])
            define_class(other, "Spot", "Point", ["colour"])
            define_global(other, "Last")
            install(other, other.class_named("Spot"), "colour ^colour + z")
            started(other, "go ^Spot new colour")
            run_image(other, [], 1000)
        self.assertEqual([saved(image), image.trace], [saved(copy), copy.trace])


class Loading(unittest.TestCase):
    def test_what_it_makes(self):
        image = scene()
        numbers = saved(image)
        copy = loaded(numbers)
        symbols, roots, count, objects = plan_of(numbers)
        store = copy.store()
        self.assertEqual([store.room, store.entries], numbers[:2])
        self.assertEqual(copy.symbols.texts(), image.symbols.texts())
        self.assertEqual(copy.space.all_roots()[1:], numbers[roots:count])
        self.assertEqual(store.numbers(), list(range(len(objects))))
        words = []
        for k, at in enumerate(objects):
            words += [k] + numbers[at:at + 2 + numbers[at]]
        self.assertEqual(store.words, words)
        self.assertEqual([copy.trace, copy.space.held(), copy.space.allocations, copy.space.collections], [[], 0, 0, 0])
        self.assertEqual([copy.space.always, copy.space.pressure], [False, []])
        self.assertEqual([saved(copy), picture(copy)], [numbers, picture(image)])
        self.assertIsNone(fault_of(copy))

    def test_the_next_object(self):
        copy = loaded(saved(new_image(1000, 100)))
        count = len(copy.store().numbers())
        self.assertEqual(copy.space.new(0, 0), count)
        self.assertEqual(copy.symbols.number("new"), 15)

    def test_the_list_stays(self):
        numbers = saved(machine())
        before = numbers[:]
        image = loaded(numbers)
        self.assertEqual(numbers, before)
        image.array([5])
        image.space.set_root(2, 5)
        self.assertEqual(saved(loaded(numbers)), before)

    def test_just_enough_room_and_entries(self):
        image = new_image(1000, 100)
        numbers = saved(image)
        words = image.space.live_words()
        self.assertEqual(len(image.store().numbers()), 65)
        define_global(image, "Long")
        self.assertLess(words, 1000)
        big = image.array([0] * (1000 - image.space.live_words() - 3))
        image.put(image.association("Long"), 1, big)
        self.assertEqual(image.space.live_words(), 1000)
        self.assertEqual(loaded(saved(image)).store().used(), 1000)
        self.assertEqual(loaded(numbers).store().used(), words)


class Going(unittest.TestCase):
    """An image that is saved and loaded amid its processes goes on as before."""

    def test_at_each_step(self):
        for source, _ in ENDS[::3] + [("| g | g := Semaphore new. [[g wait. 1 show] ensure: [2 show]] fork. nil yield. g signal. ^3", None)]:
            plain = point_machine()
            started(plain, "go " + source)
            run_image(plain, [], 10000)
            steps = 0
            while True:
                image = point_machine()
                started(image, "go " + source)
                if run_image(image, [], steps) == ("done",):
                    break
                copy = loaded(saved(image))
                copy.trace.extend(image.trace)
                run_image(copy, [], 10000)
                self.assertEqual(copy.trace, plain.trace, (source, steps))
                steps += 3
            self.assertGreater(steps, 0)


class BadNumbers(unittest.TestCase):
    def setUp(self):
        self.numbers = saved(new_image(1000, 100))
        self.symbols, self.roots, self.count, self.objects = plan_of(self.numbers)

    def bad(self, why, numbers):
        with self.assertRaises(BadImage) as caught:
            loaded(numbers)
        self.assertEqual(caught.exception.why, why)

    def changed(self, at, *others):
        """Returns the numbers with some others in the place of one."""
        return self.numbers[:at] + list(others) + self.numbers[at + 1:]

    def test_cut_and_continued(self):
        for length in range(len(self.numbers)):
            self.bad("numbers", self.numbers[:length])
        for more in ([0], [0, 0], [5] * 40, [-1], [10 ** 50]):
            self.bad("numbers", self.numbers + more)

    def test_counts(self):
        for at in [2, self.count] + self.symbols[:2] + self.symbols[-1:] + self.objects[:4] + self.objects[-1:]:
            left = len(self.numbers) - at - 1
            for count in (-1, -10 ** 40, left + 1, 10 ** 40):
                self.bad("numbers", self.changed(at, count))
        self.bad("kernel", [1000, 100, 0] + [0] * 16 + [3] + [0] * 6)
        self.bad("numbers", [1000, 100, 0] + [0] * 16 + [2] + [0] * 4)
        for count in (0, 1, 2):
            self.bad("numbers", self.changed(self.count, count))
            self.bad("numbers", self.numbers[:self.count] + [count])

    def test_slots_that_are_left(self):
        # As many as there are numbers behind it, but the class takes one of them.
        at = self.objects[-1]
        left = len(self.numbers) - at - 1
        self.bad("numbers", self.changed(at, left))
        self.assertEqual(self.numbers[at], left - 1)

    def test_room_and_entries(self):
        for room in (999, 0, -1, 1000001, 10 ** 30):
            self.bad("room", self.changed(0, room))
            # It is looked at as soon as both are read.
            self.bad("room", [room, 100])
            self.bad("numbers", [room])
        for entries in (99, 0, -1, 100001, 10 ** 30):
            self.bad("room", self.changed(1, entries))
            self.bad("room", [1000, entries, -1])
        for room, entries in ((1000, 100), (1000000, 100000)):
            image = loaded([room, entries] + self.numbers[2:])
            self.assertEqual([image.store().room, image.store().entries], [room, entries])

    def test_an_object_that_does_not_fit(self):
        # One more Array, to which root 9 refers, for as long as it fits.
        used = loaded(self.numbers).store().used()
        array = self.numbers[self.objects[3] + 1]

        def with_array(size, more=()):
            numbers = self.changed(self.count, len(self.objects) + 1)
            return numbers + [size, array] + [0] * size + list(more)
        self.bad("order", with_array(1000 - used - 3))
        self.bad("room", with_array(1000 - used - 2))
        # This is found before what comes behind it, but behind what must be left.
        self.bad("room", with_array(1000 - used - 2, [5]))
        self.bad("numbers", with_array(1000 - used - 2)[:-1])

    def test_entries_for_all_objects(self):
        count = len(self.objects)
        array = self.numbers[self.objects[3] + 1]
        for more in (100 - count, 101 - count):
            numbers = self.changed(self.count, count + more) + [0, array] * more
            self.bad("order" if more == 100 - count else "room", numbers)

    def test_many_symbols(self):
        image = new_image(1000, 100)
        image.symbols.most = 100001
        for k in range(100000 - 15):
            image.symbols.number(str(k))
        numbers = saved(image)
        self.assertEqual(loaded(numbers).symbols.count(), 100000)
        image.symbols.number("one more")
        self.bad("symbols", saved(image))
        # The list must be long enough first.
        self.bad("numbers", [1000, 100, 100001] + [0] * 100000)
        self.bad("symbols", [1000, 100, 100001] + [0] * 100001)

    def test_texts(self):
        first = self.symbols[0]
        for code in (0, 9, 11, 13, 31, 37, 127, 128, -1, -10, 10 ** 20):
            self.bad("symbols", self.changed(first + 1, code))
            self.bad("symbols", self.changed(first + 6, code)[:first + 40])
        # A text that stands there twice is found behind its codes.
        last = self.symbols[-1]
        twice = self.numbers[:last] + self.numbers[first:self.symbols[1]]
        self.bad("symbols", twice)
        self.bad("numbers", twice[:-1])
        self.bad("symbols", [1000, 100, 2, 0, 0])

    def test_long_texts(self):
        image = new_image(1000, 100)
        image.symbols.number("x" * 4000)
        numbers = saved(image)
        self.assertEqual(loaded(numbers).symbols.texts()[-1], "x" * 4000)
        at = numbers.index(4000)
        self.bad("symbols", numbers[:at] + [4001, 120] + numbers[at + 1:])
        # The length is looked at before the codes, but must be left first.
        self.bad("symbols", numbers[:at] + [4001] + [0] * 4001)
        self.bad("numbers", numbers[:at] + [4001] + [0] * 4000)

    def test_words(self):
        last = [at for at in self.objects if self.numbers[at] > 0][-1]
        places = [self.roots, self.roots + 15, self.objects[0] + 1, self.objects[3] + 1, self.objects[3] + 2, last + 2]
        count = len(self.objects)
        for at in places:
            for word in (4 * (GREATEST + 1) + 1, 4 * (LEAST - 1) + 1, 4 * 15 + 3, 4 * 99999 + 3, 4 * 100000 + 3, -1, 2 * count,
                         2 * 99999, 2 * 100000, -2, 10 ** 50, 10 ** 50 + 1, 10 ** 50 + 3):
                self.bad("words", self.changed(at, word))

    def test_words_come_behind_the_reading(self):
        numbers = self.changed(self.roots, -2)
        self.bad("numbers", numbers[:-1])
        self.bad("numbers", numbers + [0])
        # And before the order.
        numbers[self.roots + 1] = 0
        self.bad("words", numbers)

    def test_order(self):
        # Two classes that are exchanged in the numbers, an object that nothing reaches, a root that is found earlier.
        numbers = self.numbers[:]
        numbers[self.roots], numbers[self.roots + 1] = 8, 6
        self.bad("order", numbers)
        self.bad("order", self.changed(self.count, len(self.objects) + 1) + [0, self.numbers[self.objects[3] + 1]])
        self.bad("order", self.changed(self.roots + 9, 2 * (len(self.objects) - 1)))
        # The order comes before the faults.
        numbers = self.changed(self.roots + 9, 2 * (len(self.objects) - 1))
        numbers[self.roots + 6] = 0
        self.bad("order", numbers)

    def test_each_fault(self):
        image = scene()
        define_global(image, "Home")
        image.put(image.association("Home"), 1, instance(image, "Spot"))
        gate = image.get(image.association("Gate"), 1)
        method = image.space.root(8)
        home = image.get(image.association("Home"), 1)
        block = [2 * number for number in image.store().numbers() if image.store().kind(number) == image.kernel("Block")][0]
        context = image.get(running(image), 0)
        association = image.space.hold(image.new("Association", 3))
        for why, word, at, other in (
                ("classes", image.class_named("Spot"), 4, of_int(4)), ("objects", home, 0, association),
                ("globals", image.association("Home"), 0, image.symbol("home")), ("methods", method, 5, of_int(3)),
                ("inner", home, 0, image.space.root(1)), ("block", block, 1, 0), ("context", context, 5, 0),
                ("process", running(image), 3, of_int(1)), ("semaphore", gate, 0, of_int(1)), ("process", running(image), 2, of_int(0)),
                ("kernel", image.space.root(0), 0, home)):
            before = image.get(word, at)
            image.put(word, at, other)
            self.assertEqual(fault_of(image), why)
            self.bad(why, saved(image))
            image.put(word, at, before)
            image.space.collect()
            self.assertIsNone(fault_of(image))
        image.space.set_root(9, 5)
        self.bad("kernel", saved(image))


class AnyNumbers(unittest.TestCase):
    """Any lists of integers raise nothing but BadImage, or make images that stay in order."""

    WHYS = ["numbers", "room", "symbols", "words", "order", "kernel", "classes", "objects", "globals", "methods", "inner"]

    def test_small_lists(self):
        chance = random.Random(1)
        for _ in range(3000):
            row = [chance.choice([0, 1, 2, 3, 5, 16, 65, 100, 1000, -1, 10 ** 30]) for _ in range(chance.randrange(60))]
            with self.assertRaises(BadImage):
                loaded(row)
            with self.assertRaises(BadImage):
                loaded([1000, 100] + row)
            with self.assertRaises(BadImage):
                loaded([1000, 100, 0] + row[:16] + [3, 0, 0, 0, 0, 0, 0] + row[16:])

    def test_numbers_that_are_changed(self):
        chance, seen = random.Random(2), {}
        numbers = saved(scene())
        for _ in range(1500):
            row = numbers[:]
            for _ in range(chance.choice([1, 1, 1, 2, 4])):
                at = chance.randrange(len(row))
                kind = chance.randrange(8)
                if kind == 0:
                    del row[at]
                elif kind == 1:
                    row.insert(at, chance.choice(row))
                elif kind == 2:
                    row[at] += chance.choice([-4, -2, -1, 1, 2, 4])
                else:
                    row[at] = chance.choice(row) if kind < 7 else chance.choice([-1, 10 ** 30, 0, 4 * GREATEST + 1])
            self.look(row, seen, chance)
        self.assertGreater(seen.get("ok", 0), 5, seen)
        self.assertGreater(len(seen), 8, seen)

    def look(self, row, seen, chance):
        try:
            image = loaded(row)
        except BadImage as error:
            seen[error.why] = seen.get(error.why, 0) + 1
            return
        seen["ok"] = seen.get("ok", 0) + 1
        self.assertEqual(saved(image), row)
        self.stay(image, chance)

    def stay(self, image, chance):
        """Looks at an image that is in order: it stays so."""
        self.assertIsNone(fault_of(image))
        for _ in range(8):
            answer = run_image(image, [chance.randrange(5) for _ in range(5)], chance.randrange(1, 12))
            self.assertIsNone(fault_of(image))
            if answer == ("done",):
                return

    def test_odd_objects_where_programs_see_them(self):
        """Contexts, processes, methods and code stand in slots; programs send to them what they can."""
        texts = ["value", "fork", "wait", "signal", "size", "new", "show", "class", "numArgs", "yield"]
        loud = ["go A " + text + ". A finish: 3 for: B. ^A" for text in texts]
        loud += ["go ^[1] finish: 3 for: A", "go ^[[1] finish: 3 for: A] ensure: [2 show]", "go A become: B. ^B", "go ^A at: 1",
                 "go ^B ensure: [1]", "go B value: 1", "go | a | a := A. [^a] value", "go A := B. B := nil. ^A = B"]
        chance = random.Random(7)
        for _ in range(60):
            image = scene()
            for name in "AB":
                define_global(image, name)
            store = image.store()
            odd = [number for number in store.numbers() if image.class_name(store.kind(number)) in (
                "Context", "Process", "Method", "Code", "Semaphore", "Block")]
            for name in "AB":
                image.put(image.association(name), 1, 2 * chance.choice(odd))
            for source in chance.sample(loud, 3):
                started(image, source)
            image.put(image.association("A"), 1, 2 * chance.choice(odd))
            self.stay(loaded(saved(image)), chance)


class OwnContexts(unittest.TestCase):
    """A program that is given its own contexts can only answer from them."""

    SOURCES = ["go ^[self foo: [A value]] ensure: [1 show]", "foo: b ^[b value. 2 show] ensure: [3 show]"]

    def test_each_context(self):
        told = set()
        for steps in range(1, 70, 6):
            for k in range(6):
                image = machine()
                define_global(image, "A")
                define_global(image, "Me")
                install(image, image.kernel("Object"), self.SOURCES[1])
                install(image, image.kernel("Object"), "later [8] finish: 7 for: Me. ^9")
                started(image, "go A := [nil later. 4 show]. ^0")
                run_image(image, [], 100)
                started(image, self.SOURCES[0])
                run_image(image, [], steps)
                chain = []
                context = 0 if running(image) == 0 else image.get(running(image), 0)
                while context != 0:
                    chain.append(context)
                    context = image.get(context, 0)
                if k >= len(chain):
                    continue
                image.put(image.association("Me"), 1, chain[k])
                image = loaded(saved(image))
                while run_image(image, [], 4) == ("weary",):
                    self.assertIsNone(fault_of(image))
                told.add(tuple(image.trace[1:]))
        self.assertGreater(len(told), 3)


if __name__ == "__main__":
    unittest.main()
