"""Random programs: chapters 15 to 18 against a second reading, and points 00.2, 11.4 and 18.7."""

import random
import unittest

from saggar.checking import check_code, heights
from saggar.coding import compile_method
from saggar.contexts import FIXED, METHOD, PC, TOP, locals_of
from saggar.errors import BadMethod, NoRoom
from saggar.kernel import define_class, define_global
from saggar.methods import install, make_method, source_of
from saggar.ops import OPS
from saggar.parsing import parse_method
from saggar.processes import choose, current, ready, running, spawn
from saggar.stepping import step
from tests.growing import grow_method
from tests.images import picture
from tests.machines import instance, machine, point_image, started
from tests.oracle import Oracle, Weary
from tests.programs import CLASSES, GLOBALS, grow_program
from tests.test_checking import disturbed

STEPS = 4000


def image_for(program, room=60000, entries=9000):
    """Returns an image with the classes, methods and processes of a program."""
    image = machine(room, entries)
    for name, superclass, fields in CLASSES:
        define_class(image, name, superclass, fields)
    for name in GLOBALS:
        define_global(image, name)
    for owner, source in program[0]:
        install(image, image.class_named(owner), source)
    for source in program[1]:
        started(image, source)
    return image


def oracle_for(program):
    """Returns what a second reading tells of a program."""
    oracle = Oracle()
    for name, superclass, fields in CLASSES:
        oracle.define_class(name, superclass, fields)
    for name in GLOBALS:
        oracle.shared[name] = ("nil",)
    for owner, source in program[0]:
        oracle.install(owner, source)
    for source in program[1]:
        oracle.start(source)
    return oracle


def run(image, choices, look=None, limit=STEPS):
    """Runs an image; returns True if it has come to an end."""
    choices = list(choices)
    for _ in range(limit):
        if running(image) == 0:
            if not ready(image):
                return True
            choose(image, choices.pop(0) if choices else 0)
        if look is not None:
            look(image)
        step(image)
    return running(image) == 0 and not ready(image)


def program_of(seed):
    """Returns a random program that can be installed, and choices."""
    chance = random.Random(seed)
    while True:
        program = grow_program(chance)
        try:
            image_for(program)
            return program, [chance.randrange(9) for _ in range(30)]
        except BadMethod:
            # Some grow longer or deeper than a source may be.
            continue


PROGRAMS = {seed: program_of(seed) for seed in range(60)}


class Looker:
    """Looks at the context that runs before each step: points 11.4 and 15.1."""

    def __init__(self, case):
        self.case, self.told = case, {}

    def heights_of(self, image, method):
        source = source_of(image, method)
        owner = image.get(method, 1)
        if (source, owner) not in self.told:
            draft = compile_method(parse_method(source), image.fields(owner), image.global_names())
            self.told[source, owner] = heights(draft)
        return self.told[source, owner]

    def look(self, image):
        context = current(image)
        row = image.items(context)
        place, height = row[PC] // 4, row[TOP] // 4
        self.case.assertEqual(self.heights_of(image, row[METHOD])[place], height)
        above = row[FIXED + locals_of(image, context) + height:]
        self.case.assertEqual(above, [0] * len(above))
        self.case.assertEqual(image.space.held(), 0)


class Programs(unittest.TestCase):
    def test_against_a_second_reading(self):
        ended, kinds = 0, {}
        for seed, (program, choices) in PROGRAMS.items():
            image, oracle = image_for(program), oracle_for(program)
            done = run(image, choices)
            try:
                oracle.run(choices)
            except (Weary, RecursionError):
                done = False
            if done:
                self.assertEqual(image.trace, oracle.trace, seed)
                ended += 1
            length = min(len(image.trace), len(oracle.trace))
            self.assertEqual(image.trace[:length], oracle.trace[:length], seed)
            for row in image.trace:
                kind = row[0] if row[0] == "show" else row[2][:2] if row[2][0] == "error" else "value"
                kinds[kind] = kinds.get(kind, 0) + 1
        self.assertGreater(ended, 40)
        self.assertGreater(kinds["show"], 300)
        told = {kind[1] for kind in kinds if kind[0] == "error"}
        self.assertLessEqual({"unknown", "gone", "index", "zero", "become"}, told)

    def test_whenever_the_space_collects(self):
        for seed in range(0, 60, 4):
            program, choices = PROGRAMS[seed]
            plain, pressed = image_for(program), image_for(program)
            pressed.space.press([], always=True)
            moments = [random.Random(seed).randrange(3000) for _ in range(100)]
            other = image_for(program)
            other.space.press(moments)
            for image in (plain, pressed, other):
                run(image, choices, limit=1500)
            self.assertEqual([pressed.trace, picture(pressed)], [plain.trace, picture(plain)], seed)
            self.assertEqual([other.trace, picture(other)], [plain.trace, picture(plain)], seed)

    def test_harmless(self):
        for seed in range(1, 60, 6):
            program, choices = PROGRAMS[seed]
            run(image_for(program), choices, Looker(self).look, limit=1500)

    def test_in_a_small_room(self):
        wanted = 0
        for seed in range(2, 60, 6):
            program, choices = PROGRAMS[seed]
            image, plain = image_for(program), image_for(program)
            run(plain, choices, limit=1500)
            image.space.collect()
            image.store().room = image.store().used()
            wanted += run_with_more_room(self, image, choices)
            self.assertEqual([image.trace, picture(image)], [plain.trace, picture(plain)], seed)
        self.assertGreater(wanted, 20)


class Others(unittest.TestCase):
    """Code without a fault that nobody compiled: point 11.4."""

    def image_of(self, draft):
        """Returns an image with a ready process that carries out a draft."""
        image = point_image()
        for name in ("Total", "X1"):
            define_global(image, name)
        point = image.class_named("Point")
        method = make_method(image, point, draft.selector, draft)
        receiver = image.space.hold(instance(image, "Spot"))
        spawn(image, method, receiver, [2, receiver, 5, 0][:draft.argc])
        image.space.drop(image.space.held())
        return image

    def test_it_does_no_harm(self):
        chance, known, done = random.Random(8), ["a", "b", "Total", "X1"], {}
        for seed in range(4000):
            draft = disturbed(compile_method(grow_method(random.Random(seed % 200), known), known[:2], known[2:]), chance)
            names = [literal[1] for literal in draft.literals if literal[0] == "global"]
            # What cannot be reached may have no number at all.
            numbered = all(op in OPS and 0 <= arg <= 65535 for op, arg in draft.code)
            if check_code(draft, 2) is None and numbered and all(name in known[2:] for name in names):
                image, told = self.image_of(draft), heights(draft)
                run(image, [], lambda image: self.look(image, told), limit=80)
                for row in image.trace:
                    done[row[2][:2]] = done.get(row[2][:2], 0) + 1
        self.assertGreater(done[("error", "unknown")], 100)
        self.assertGreater(sum(done.values()), 300)

    def look(self, image, told):
        context = current(image)
        row = image.items(context)
        height = row[TOP] // 4
        self.assertEqual(told[row[PC] // 4], height)
        above = row[FIXED + locals_of(image, context) + height:]
        self.assertEqual(above, [0] * len(above))


def run_with_more_room(case, image, choices):
    """Runs an image that gets just the room that a step needs; returns how often one found none."""
    choices, wanted = list(choices), 0
    for _ in range(1500):
        if running(image) == 0:
            if not ready(image):
                return wanted
            choose(image, choices.pop(0) if choices else 0)
        live, needs = image.space.live_words(), []
        while True:
            try:
                step(image)
                break
            except NoRoom as error:
                needs.append(error.need)
                image.store().room = live + sum(needs)
        wanted += len(needs)
        # A process that is made needs room for its context, too.
        case.assertLessEqual(len(needs), 2)
    return wanted


if __name__ == "__main__":
    unittest.main()
