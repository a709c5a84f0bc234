"""Running: points 18.6 and 18.7, with 17.5 and 18.1 to 18.5 behind them."""

import random
import unittest

from saggar.kernel import define_class, define_global
from saggar.methods import install
from saggar.processes import ready, running
from saggar.running import run_image
from saggar.words import GREATEST, of_int
from tests.images import close_up_numbers, picture, whole
from tests.machines import machine, started
from tests.oracle import Oracle, Weary
from tests.test_programs import PROGRAMS, image_for, oracle_for

DONE, WEARY, STUCK = ("done",), ("weary",), ("no room",)
LOUD = "go 1 show. nil yield. 2 show. nil yield. 3 show"


def three(source=LOUD):
    """Returns an image with three ready processes."""
    image = machine()
    for _ in range(3):
        started(image, source)
    return image


def ends(image):
    """Returns the numbers of the processes that have ended, in order."""
    return [row[1] for row in image.trace if row[0] == "end"]


def steps_to_the_end(image):
    """Returns how many steps an image takes, one by one."""
    count = 0
    while run_image(image, [], 1) == WEARY:
        count += 1
    return count + 1


class Choices(unittest.TestCase):
    def order(self, choices):
        image = three()
        self.assertEqual(run_image(image, choices, 1000), DONE)
        return "".join(str(row[1]) for row in image.trace if row[0] == "show")

    def test_none(self):
        self.assertEqual(self.order([]), "123123123")

    def test_small_ones(self):
        self.assertEqual(self.order([2, 1, 0, 0, 0]), "321321321")
        self.assertEqual(self.order([0, 0, 0, 2, 1, 0]), "123321321")
        self.assertEqual(self.order([1, 1, 1]), "232132131")

    def test_the_count_of_those_that_are_ready(self):
        # The last one is chosen until it has ended; then there are two.
        self.assertEqual(self.order([2, 2, 2, 2]), "333121212")

    def test_great_ones(self):
        self.assertEqual(self.order([3, 300, 10 ** 30 * 3]), self.order([0, 0, 0]))
        self.assertEqual(self.order([5, 31, 2]), self.order([2, 1, 2]))

    def test_used_up_and_left_over(self):
        self.assertEqual(self.order([2]), self.order([2, 0, 0, 0, 0, 0]))
        self.assertEqual(self.order([1, 2] * 6), self.order([1, 2] * 60))

    def test_one_is_taken_only_when_none_runs(self):
        image = three("go 1 show. 2 show. 3 show")
        self.assertEqual(run_image(image, [2, 1], 3), WEARY)
        self.assertEqual(len(ready(image)), 2)
        # The process goes on, and the first choice is for the next one.
        self.assertEqual(run_image(image, [1], 1000), DONE)
        self.assertEqual(ends(image), [3, 2, 1])

    def test_the_list_stays(self):
        choices = [1, 2, 3]
        run_image(three(), choices, 1000)
        self.assertEqual(choices, [1, 2, 3])


class Limits(unittest.TestCase):
    def test_no_process(self):
        for limit in (0, 1, 1000):
            image = machine()
            self.assertEqual([run_image(image, [], limit), image.trace], [DONE, []])

    def test_no_step(self):
        image = three()
        before = whole(image)
        self.assertEqual([run_image(image, [2], 0), whole(image)], [WEARY, before])
        self.assertEqual(running(image), 0)

    def test_behind_the_last_step(self):
        count = steps_to_the_end(three())
        for limit, answer in ((count - 1, WEARY), (count, DONE), (count + 1, DONE)):
            self.assertEqual(run_image(three(), [], limit), answer)
        image = three()
        run_image(image, [], count)
        self.assertEqual([run_image(image, [], 0), run_image(image, [], 5)], [DONE, DONE])

    def test_one_ready_process_is_enough_to_be_weary(self):
        image = machine()
        started(image, "go ^1")
        started(image, "go ^2")
        self.assertEqual([run_image(image, [], 2), running(image)], [WEARY, 0])
        self.assertEqual([run_image(image, [], 2), ends(image)], [DONE, [1, 2]])

    def test_waiting_ones_are_not_ready(self):
        image = machine()
        started(image, "go ^Semaphore new wait")
        self.assertEqual([run_image(image, [], 1000), image.trace], [DONE, []])
        self.assertEqual(run_image(image, [], 0), DONE)

    def test_pieces(self):
        whole_run = three()
        run_image(whole_run, [], 1000)
        for size in (1, 2, 3, 7):
            image = three()
            answers = []
            while not answers or answers[-1] == WEARY:
                answers.append(run_image(image, [], size))
            self.assertEqual([image.trace, picture(image)], [whole_run.trace, picture(whole_run)])
            self.assertEqual(answers, [WEARY] * (len(answers) - 1) + [DONE])
            self.assertGreater(len(answers), 5)

    def test_pieces_of_programs(self):
        for seed in range(0, 60, 9):
            program, _ = PROGRAMS[seed]
            one, other = image_for(program), image_for(program)
            run_image(one, [], 1200)
            chance = random.Random(seed)
            left = 1200
            while left > 0:
                size = min(left, chance.randrange(40))
                run_image(other, [], size)
                left -= size
            self.assertEqual([other.trace, picture(other)], [one.trace, picture(one)])


class Room(unittest.TestCase):
    """A run that finds no room finds none again, and goes on when there is some."""

    SOURCE = "go | a | 1 show. a := Array new: 2. 2 show. [a size show] value. ^3 show"

    def built(self):
        image = machine()
        started(image, self.SOURCE)
        return image

    def check_stuck(self, image):
        """Looks at a run that finds no room, several times."""
        self.assertEqual(run_image(image, [7], 1000), STUCK)
        before = [whole(image), running(image)]
        for limit in (1, 2, 1000):
            self.assertEqual(run_image(image, [9], limit), STUCK)
            self.assertEqual([whole(image), running(image)], before)
        self.assertEqual([run_image(image, [], 0), whole(image)], [WEARY, before[0]])

    def test_no_room(self):
        plain = self.built()
        run_image(plain, [], 1000)
        for extra in range(5):
            image = self.built()
            image.store().room = image.space.live_words() + extra
            self.check_stuck(image)
            image.store().room = 20000
            self.assertEqual(run_image(image, [], 1000), DONE)
            self.assertEqual([image.trace, picture(image)], [plain.trace, picture(plain)])

    def test_no_number(self):
        plain = self.built()
        run_image(plain, [], 1000)
        for extra in range(4):
            image = self.built()
            close_up_numbers(image)
            image.store().entries = len(image.store().numbers()) + extra
            if extra < 3:
                self.check_stuck(image)
                image.store().entries += 3 - extra
            # An Array, a block and its context are needed.
            self.assertEqual([run_image(image, [], 1000), image.trace], [DONE, plain.trace])

    def test_no_number_for_a_process(self):
        image = machine()
        started(image, "go 1 show. [2 show] fork. 3 show")
        image.space.set_root(5, of_int(GREATEST))
        self.assertEqual([run_image(image, [], 100), image.trace], [STUCK, [("show", 1, ("int", 1))]])
        before = whole(image)
        self.assertEqual([run_image(image, [], 100), whole(image)], [STUCK, before])

    def test_only_when_the_step_is_due(self):
        image = machine()
        started(image, "go ^Array new: 5000")
        image.store().room = image.space.live_words() + 100
        # Two words are pushed, and then the Array is asked for.
        self.assertEqual([run_image(image, [], 1), run_image(image, [], 1)], [WEARY, WEARY])
        self.assertEqual([run_image(image, [], 0), run_image(image, [], 1)], [WEARY, STUCK])

    def test_garbage_makes_no_want(self):
        image = machine()
        started(image, "go | k | k := 0. [k < 200] whileTrue: [Array new: 20. k := k + 1]. ^k")
        image.store().room = image.space.live_words() + 23
        self.assertEqual([run_image(image, [], 100000), image.trace], [DONE, [("end", 1, ("value", ("int", 200)))]])
        self.assertGreater(image.space.collections, 100)

    def test_just_too_much_is_kept(self):
        image = machine()
        started(image, "go | a | a := Array new: 20. ^Array new: 20")
        image.store().room = image.space.live_words() + 45
        self.assertEqual(run_image(image, [], 100), STUCK)
        image.store().room += 1
        self.assertEqual(run_image(image, [], 100), DONE)


class Collections(unittest.TestCase):
    def test_they_change_nothing_in_the_trace(self):
        for seed in range(3, 60, 7):
            program, choices = PROGRAMS[seed]
            chance = random.Random(seed)
            plain = image_for(program)
            answer = run_image(plain, choices, 1500)
            for moments, always in (([], True), ([chance.randrange(2000) for _ in range(60)], False), ([1, 2, 3], False)):
                image = image_for(program)
                image.space.press(moments, always=always)
                self.assertEqual(run_image(image, choices, 1500), answer)
                self.assertEqual([image.trace, picture(image)], [plain.trace, picture(plain)])

    def test_nor_do_the_numbers_of_objects(self):
        for seed in range(5, 60, 11):
            program, choices = PROGRAMS[seed]
            plain, image = image_for(program), image_for(program)
            run_image(plain, choices, 1500)
            # Numbers that are free behind the first objects go to the next ones.
            for k in range(200):
                image.space.hold(2 * image.space.new(0, k % 3))
            image.space.drop(200)
            image.space.collect()
            run_image(image, choices, 1500)
            self.assertEqual(image.trace, plain.trace)


class Programs(unittest.TestCase):
    def test_against_a_second_reading(self):
        ended = 0
        for seed in range(0, 60, 2):
            program, choices = PROGRAMS[seed]
            image, oracle = image_for(program), oracle_for(program)
            answer = run_image(image, choices, 4000)
            try:
                oracle.run(choices)
            except (Weary, RecursionError):
                continue
            if answer == DONE:
                ended += 1
                self.assertEqual(image.trace, oracle.trace, seed)
        self.assertGreater(ended, 15)


ENDS = [
    # Numbers at the edges.
    ("^268435455 + 0", ("value", ("int", 268435455))),
    ("^268435455 + 1", ("error", "overflow")),
    ("^-268435456 - 1", ("error", "overflow")),
    ("^-268435456 // -1", ("error", "overflow")),
    ("^-268435456 mod: -1", ("value", ("int", 0))),
    ("^-268435456 rem: -1", ("value", ("int", 0))),
    ("^16384 * 16384", ("error", "overflow")),
    ("^16384 * -16384", ("value", ("int", -268435456))),
    ("^-7 // 2", ("value", ("int", -4))),
    ("^-7 mod: 2", ("value", ("int", 1))),
    ("^-7 rem: 2", ("value", ("int", -1))),
    ("^7 mod: -2", ("value", ("int", -1))),
    ("^7 rem: -2", ("value", ("int", 1))),
    ("^7 // 0", ("error", "zero")),
    ("^7 mod: 0", ("error", "zero")),
    ("^7 rem: nil", ("error", "integer")),
    ("^7 < #a", ("error", "integer")),
    # Objects and Arrays.
    ("| a | a := Array new: 3. a at: 3 put: #x. ^a at: 3", ("value", ("symbol", "x"))),
    ("^(Array new: 3) at: 0", ("error", "index")),
    ("^(Array new: 3) at: 4 put: 1", ("error", "index")),
    ("^Array new: 10001", ("error", "new")),
    ("^Point new: 2", ("error", "new")),
    ("^Context new", ("error", "new")),
    ("| p | p := Point new. p x: 4. ^p x", ("value", ("int", 4))),
    ("^Point new", ("value", ("object", "Point"))),
    # become:
    ("| p a | p := Point new. p x: 4. a := Array new: 5. p become: a. ^p size + a x", ("value", ("int", 9))),
    ("| p | p := Point new. ^p become: 3", ("error", "become")),
    ("^nil become: Point new", ("error", "become")),
    ("^Point new swap", ("error", "receiver")),
    # Blocks carried out later, and returns from them.
    ("| b k | k := 1. b := [k := k + 1]. b value. b value. ^k", ("value", ("int", 3))),
    ("^[:a :b :c | a + b * c] value: 1 value: 2 value: 3", ("value", ("int", 9))),
    ("^[:a | a] value", ("error", "arguments")),
    ("^[:a | a] fork", ("error", "arguments")),
    ("[^1] value. ^2", ("value", ("int", 1))),
    ("^self later value", ("error", "gone")),
    ("^[self later value. 1] ensure: [2 show]", ("error", "gone")),
    ("[^1] ensure: [^2]. ^3", ("value", ("int", 2))),
    ("^[1] ensure: [2]", ("value", ("int", 1))),
    ("Shared := [^4]. ^[[^5] ensure: [Shared := 6]] ensure: [Shared := Shared + 1]", ("value", ("int", 5))),
    # What else ends a process.
    ("^3 ifTrue: [4]", ("error", "test")),
    ("^nil foo: 1", ("error", "unknown", "foo:")),
    ("^super - 1", ("error", "unknown", "-")),
    ("Point := 3", ("error", "class")),
    ("^[1] ensure: 2", ("error", "unknown", "value")),
    ("^[1] finish: 2 for: 3", ("error", "arguments")),
    ("| s | s := Semaphore new. s signal. s wait. ^s", ("value", ("object", "Semaphore"))),
]


def point_machine():
    """Returns an image with a class of points and a method that leaves a block behind."""
    image = machine()
    define_class(image, "Point", "Object", ["x"])
    define_global(image, "Shared")
    point = image.class_named("Point")
    for source in ("x ^x", "x: k x := k", "swap self become: (Array new: 1). ^x"):
        install(image, point, source)
    install(image, image.kernel("Object"), "later ^[^3]")
    return image


class Ends(unittest.TestCase):
    def test_each(self):
        for source, what in ENDS:
            for always in (False, True):
                image = point_machine()
                image.space.press([], always=always)
                started(image, "go " + source)
                self.assertEqual(run_image(image, [], 10000), DONE, source)
                self.assertEqual(image.trace[-1], ("end", 1, what), source)

    def test_all_errors_are_there(self):
        told = {what[1] for _, what in ENDS if what[0] == "error"}
        self.assertEqual(told, set("integer overflow zero become new index arguments receiver class unknown gone test".split()))

    def test_they_agree_with_a_second_reading(self):
        for source, what in ENDS:
            oracle = Oracle()
            oracle.define_class("Point", "Object", ["x"])
            oracle.shared["Shared"] = ("nil",)
            for name, method in (("Point", "x ^x"), ("Point", "x: k x := k"),
                                 ("Point", "swap self become: (Array new: 1). ^x"), ("Object", "later ^[^3]")):
                oracle.install(name, method)
            if "finish:" not in source:
                oracle.start("go " + source)
                oracle.run([])
                self.assertEqual(oracle.trace[-1], ("end", 1, what), source)

    def test_a_semaphore_that_is_full(self):
        image = machine()
        started(image, "go Object := nil")
        define_global(image, "Gate")
        gate = image.array_of("Semaphore", [of_int(GREATEST), 0, 0])
        image.put(image.association("Gate"), 1, gate)
        started(image, "go Gate signal")
        run_image(image, [], 100)
        self.assertEqual(image.trace, [("end", 1, ("error", "class")), ("end", 2, ("error", "overflow"))])


class Traces(unittest.TestCase):
    def traced(self, sources, choices=()):
        image = point_machine()
        define_global(image, "Gate")
        for source in sources:
            started(image, "go " + source)
        self.assertEqual(run_image(image, list(choices), 10000), DONE)
        return [row[1:] for row in image.trace]

    def test_guards(self):
        source = "[[1 show. ^2] ensure: [3 show]. 4 show] ensure: [5 show]. 6 show"
        self.assertEqual(self.traced([source]), [(1, ("int", 1)), (1, ("int", 3)), (1, ("int", 5)), (1, ("value", ("int", 2)))])

    def test_an_error_carries_out_no_guard(self):
        self.assertEqual(self.traced(["[1 foo] ensure: [2 show]"]), [(1, ("error", "unknown", "foo"))])

    def test_forks(self):
        rows = self.traced(["[1 show] fork. 2 show. nil yield. 3 show. ^[4] fork"])
        self.assertEqual(rows, [(1, ("int", 2)), (2, ("int", 1)), (2, ("value", ("int", 1))), (1, ("int", 3)),
                                (1, ("value", ("object", "Process"))), (3, ("value", ("int", 4)))])

    def test_semaphores(self):
        waiting = "Gate wait. #in show. nil yield. #out show. Gate signal"
        rows = self.traced(["Gate := Semaphore new. Gate signal", waiting, waiting], [0, 1])
        shows = [(row[0], row[1][1]) for row in rows if len(row[1]) == 2 and row[1][0] == "symbol"]
        self.assertEqual(shows, [(3, "in"), (3, "out"), (2, "in"), (2, "out")])

    def test_a_block_of_another_process(self):
        rows = self.traced(["Shared := [^1]. nil yield. ^2", "^Shared value"])
        self.assertEqual(rows, [(2, ("error", "gone")), (1, ("value", ("int", 2)))])


if __name__ == "__main__":
    unittest.main()
