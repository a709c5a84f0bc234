"""Comparing spaces: points 24.1 to 24.4."""

import random
import unittest

from saggar.comparing import alike_images, compare, judge
from saggar.errors import BadMethod, NoRoom
from saggar.images import loaded, saved
from saggar.inspecting import paths, word_at
from saggar.kernel import define_class, define_global, new_image
from saggar.methods import install
from saggar.reshaping import reshape
from saggar.running import run_image
from saggar.spaces import Space
from saggar.words import of_int
from tests.graphs import chained, found_without, grown, rows, state_of
from tests.machines import instance, machine, started
from tests.test_images import other_way
from tests.test_programs import PROGRAMS, image_for
from tests.test_running import point_machine
from tests.test_states import scene


def renumbered(space, chance):
    """Returns an alike space with other numbers, and other words in what is not reached."""
    table, first = rows(space)
    numbers = [number for number in table if number > 0]
    others = numbers[:]
    chance.shuffle(others)
    moved = dict(zip([0] + numbers, [0] + others))
    back = {place: number for number, place in moved.items()}
    used = found_without(space)

    def new(word):
        return 2 * moved[word // 2] if word % 2 == 0 and word // 2 in table else word
    other = Space(space.store.room, space.store.entries)
    for place in range(max(table) + 1):
        other.store.allocate(1, len(table.get(back.get(place), [1])) - 1)
    for place in set(range(max(table) + 1)) - set(back):
        other.store.drop(place)
    other.store.close_up()
    for number in used:
        words = [new(word) for word in table[number]]
        other.store.set_kind(moved[number], words[0])
        for at, word in enumerate(words[1:]):
            other.store.put(moved[number], at, word)
    for k in range(16):
        other.set_root(k, new(first[k + 1]))
    for word in first[17:]:
        other.hold(new(word))
    return other, {number: moved[number] for number in used}


def target(space, word):
    return word // 2 if word is not None and word % 2 == 0 and space.store.exists(word // 2) else None


def holds(one, other, verdict):
    """A second reading of the table of point 24.2."""
    kind = verdict[0]
    if kind == "held":
        return one.held() != other.held()
    if kind == "alike":
        pairs = verdict[1]
        for side, space in ((0, one), (1, other)):
            numbers = [pair[side] for pair in pairs]
            if len(set(numbers)) < len(numbers) or any(number not in space.store.numbers() for number in numbers):
                return False

        def match(left, right):
            if len(left) != len(right):
                return False
            for word, partner in zip(left, right):
                objects = (target(one, word), target(other, partner))
                if objects == (None, None):
                    if word != partner:
                        return False
                elif objects not in pairs:
                    return False
            return True
        tables = rows(one), rows(other)
        return match(tables[0][1], tables[1][1]) and all(match(tables[0][0][a], tables[1][0][b]) for a, b in pairs)
    words = [[word_at(space, path) for path in verdict[1:]] for space in (one, other)]
    if any(word is None for row in words for word in row):
        return False
    objects = [[target(space, word) for word in row] for space, row in zip((one, other), words)]
    if kind == "word":
        number, partner = objects[0][0], objects[1][0]
        return (number is None or partner is None) and not (number is None and partner is None and words[0] == words[1])
    if any(number is None for row in objects for number in row):
        return False
    if kind == "size":
        return one.store.size(objects[0][0]) != other.store.size(objects[1][0])
    return (objects[0][0] == objects[0][1]) != (objects[1][0] == objects[1][1])


def first_difference(one, other):
    """Returns the verdict of point 24.3, told by trying the paths in their order."""
    if one.held() != other.held():
        return ("held",)
    best, best_other = paths(one), paths(other)
    candidates = [(k,) for k in range(len(one.all_roots()))]
    for space, table in ((one, best), (other, best_other)):
        for number, path in table.items():
            candidates += [path + (k,) for k in range(space.store.size(number) + 1)]
    for path in sorted(set(candidates), key=lambda path: (len(path), path)):
        if holds(one, other, ("word", path)):
            return ("word", path)
        for space, table in ((one, best), (other, best_other)):
            number = target(space, word_at(space, path))
            if number is not None and holds(one, other, ("same", table[number], path)):
                return ("same", table[number], path)
        if holds(one, other, ("size", path)):
            return ("size", path)
    order = sorted(best, key=lambda number: (len(best[number]), best[number]))
    return ("alike", [(number, target(other, word_at(other, best[number]))) for number in order])


def disturb(space, chance):
    """Changes one word or more in what a space reaches."""
    numbers = sorted(found_without(space))
    for _ in range(chance.choice([1, 1, 1, 2])):
        word = chance.choice([2 * chance.choice(numbers or [0]), 2 * chance.choice(numbers or [0]), 0, 1, 5, 77])
        kind = chance.randrange(12)
        if kind == 0 or not numbers:
            space.set_root(chance.randrange(16), word)
        elif kind == 1:
            space.hold(word)
        elif kind < 4:
            space.store.set_kind(chance.choice(numbers), word)
        elif kind == 4:
            number = chance.choice(numbers)
            made = space.new(space.store.kind(number), chance.choice([0, 1, 4]))
            space.store.exchange(number, made)
        else:
            number = chance.choice(numbers)
            if space.store.size(number):
                space.store.put(number, chance.randrange(space.store.size(number)), word)


def pair():
    """Returns the spaces of the example."""
    one, other = Space(100, 50), Space(100, 50)
    for space, sizes in ((one, (0, 2, 0)), (other, (0, 0, 2))):
        for size in sizes:
            space.new(0, size)
    one.set_root(0, 2)
    other.set_root(0, 4)
    return one, other


class Verdicts(unittest.TestCase):
    def check(self, one, other, verdict):
        before = [state_of(one), state_of(other)]
        self.assertEqual(compare(one, other), verdict)
        self.assertTrue(judge(one, other, verdict) is True)
        self.assertEqual([state_of(one), state_of(other)], before)

    def test_alike(self):
        one, other = pair()
        self.check(one, other, ("alike", [(0, 0), (1, 2)]))
        self.check(Space(9, 9), Space(50, 50), ("alike", []))
        self.check(one, one, ("alike", [(0, 0), (1, 1)]))

    def test_held(self):
        one, other = pair()
        one.hold(2)
        self.check(one, other, ("held",))
        other.hold(4)
        self.check(one, other, ("alike", [(0, 0), (1, 2)]))
        other.hold(4)
        self.check(one, other, ("held",))

    def test_words(self):
        one, other = pair()
        other.store.put(2, 1, 5)
        self.check(one, other, ("word", (1, 2)))
        one.store.put(1, 1, 5)
        self.check(one, other, ("alike", [(0, 0), (1, 2)]))
        one.store.put(1, 1, 9)
        self.check(one, other, ("word", (1, 2)))
        one.store.set_kind(1, 7)
        self.check(one, other, ("word", (1, 0)))
        one.set_root(0, 3)
        self.check(one, other, ("word", (1,)))
        # References to numbers that no object has are compared as words.
        one, other = pair()
        one.set_root(3, 80)
        other.set_root(3, 80)
        self.check(one, other, ("alike", [(0, 0), (1, 2)]))
        other.set_root(3, 82)
        self.check(one, other, ("word", (4,)))

    def test_the_same(self):
        one, other = pair()
        one.store.put(1, 1, 4)
        other.store.put(2, 0, 2)
        self.check(one, other, ("same", (0,), (1, 1)))
        self.check(other, one, ("same", (0,), (1, 1)))
        one, other = pair()
        # The first space's object is known there before, the second one's, and both.
        for space, last in ((one, 2), (other, 1)):
            space.set_root(2, 2 * space.new(0, 0))
        one.set_root(1, 2)
        other.set_root(1, 2 * 3)
        self.check(one, other, ("same", (1,), (2,)))
        self.check(other, one, ("same", (1,), (2,)))
        one, other = pair()
        for space in (one, other):
            space.set_root(1, 2 * space.new(0, 2))
        one.set_root(2, 2 * 3)
        other.set_root(2, 2 * 2)
        self.check(one, other, ("same", (2,), (3,)))
        self.check(other, one, ("same", (1,), (3,)))

    def test_sizes(self):
        one, other = pair()
        other.set_root(0, 2)
        self.check(one, other, ("size", (1,)))
        one.set_root(4, 4)
        other.set_root(4, 4)
        self.check(one, other, ("size", (1,)))

    def test_held_words_and_garbage(self):
        one, other = pair()
        one.hold(4)
        other.hold(2)
        self.check(one, other, ("alike", [(0, 0), (1, 2), (2, 1)]))
        for _ in range(5):
            other.new(5, 3)
        self.check(one, other, ("alike", [(0, 0), (1, 2), (2, 1)]))

    def test_shorter_paths_first(self):
        one, other = pair()
        for space, number in ((one, 1), (other, 2)):
            space.set_root(5, 2 * space.new(0, 0))
            space.store.put(number, 0, 5)
        one.store.put(1, 0, 9)
        other.set_root(5, 0)
        self.check(one, other, ("same", (0,), (6,)))


class AtRandom(unittest.TestCase):
    def test_alike_spaces(self):
        chance = random.Random(1)
        for _ in range(150):
            one = grown(chance, chance.randrange(1, 30))
            if not one.store.exists(0):
                continue
            other, moved = renumbered(one, chance)
            found = compare(one, other)
            best = paths(one)
            order = sorted(best, key=lambda number: (len(best[number]), best[number]))
            self.assertEqual(found, ("alike", [(number, moved[number]) for number in order]))
            self.assertTrue(judge(one, other, found))

    def test_the_first_difference(self):
        chance, seen = random.Random(2), {}
        for _ in range(600):
            one = grown(chance, chance.randrange(1, 20))
            if not one.store.exists(0):
                continue
            other, _ = renumbered(one, chance)
            disturb(chance.choice([one, other]), chance)
            before = [state_of(one), state_of(other)]
            found = compare(one, other)
            self.assertEqual(found, first_difference(one, other))
            self.assertEqual([judge(one, other, found), state_of(one), state_of(other)], [True] + before)
            seen[found[0]] = seen.get(found[0], 0) + 1
        self.assertGreater(min(seen.get(kind, 0) for kind in ("alike", "held", "word", "size", "same")), 15, seen)

    def test_judges(self):
        chance, seen = random.Random(3), {}
        for _ in range(500):
            one = grown(chance, chance.randrange(1, 12))
            if not one.store.exists(0):
                continue
            other, moved = renumbered(one, chance)
            if chance.random() < 0.7:
                disturb(other, chance)
            known = list(paths(one).values()) + list(paths(other).values())

            def path():
                steps = list(chance.choice(known or [()]))
                for _ in range(chance.choice([0, 0, 1, 1, 2])):
                    steps.append(chance.choice([0, 1, 2, 3, 5, -1, 10 ** 20]))
                return tuple(steps[chance.choice([0, 0, 0, 0, 1]):])
            for _ in range(30):
                kind = chance.choice(["alike", "held", "word", "size", "same", "same"])
                verdict = (kind, path(), path())[:{"held": 1, "word": 2, "size": 2, "same": 3, "alike": 1}[kind]]
                if kind == "alike":
                    pairs = list(moved.items())
                    if chance.random() < 0.5:
                        pairs.append((chance.choice([0, 1, 2, -1, 10 ** 20]), chance.choice([0, 1, 2, 3, -1, 10 ** 20])))
                    if chance.random() < 0.3 and pairs:
                        del pairs[chance.randrange(len(pairs))]
                    chance.shuffle(pairs)
                    verdict = ("alike", pairs)
                found = judge(one, other, verdict)
                self.assertIs(found, holds(one, other, verdict), verdict)
                seen[kind, found] = seen.get((kind, found), 0) + 1
        for kind in ("alike", "word", "size", "same"):
            for found in (True, False):
                self.assertGreater(seen.get((kind, found), 0), 5, (kind, found))

    def test_chains(self):
        one, other = chained(1500), chained(1500)
        self.assertEqual(len(compare(one, other)[1]), 1502)
        other.store.put(1501, 0, 5)
        verdict = compare(one, other)
        self.assertEqual([verdict[0], len(verdict[1]), judge(one, other, verdict)], ["word", 1501, True])
        other.store.put(1501, 0, 2 * 700)
        one.store.put(1501, 0, 2 * 701)
        verdict = compare(one, other)
        self.assertEqual([verdict[0], len(verdict[1]), len(verdict[2]), judge(one, other, verdict)], ["same", 700, 1501, True])


class Judges(unittest.TestCase):
    def test_alike(self):
        one, other = pair()
        for pairs, found in (([(0, 0), (1, 2)], True), ([(1, 2), (0, 0)], True), ([(1, 2)], False), ([(0, 0)], False), ([], False),
                             ([(0, 0), (1, 2), (2, 1)], True), ([(0, 0), (1, 1)], False), ([(0, 2), (1, 0)], False),
                             ([(0, 0), (1, 2), (1, 2)], False), ([(0, 0), (1, 2), (2, 2)], False), ([(0, 0), (1, 2), (0, 1)], False),
                             ([(0, 0), (1, 2), (9, 1)], False), ([(0, 0), (1, 2), (2, 9)], False), ([(0, 0), (1, 2), (-1, -1)], False),
                             ([(0, 0), (1, 2), (10 ** 30, 1)], False)):
            self.assertIs(judge(one, other, ("alike", pairs)), found, pairs)
        # Objects that are not reached stand in two pairs.
        for space in (one, other):
            space.new(0, 0)
        for pairs, found in (([(0, 0), (1, 2), (2, 1), (3, 3)], True), ([(0, 0), (1, 2), (2, 1), (2, 3)], False),
                             ([(0, 0), (1, 2), (2, 1), (3, 1)], False)):
            self.assertIs(judge(one, other, ("alike", pairs)), found, pairs)
        one.hold(5)
        self.assertIs(judge(one, other, ("alike", [(0, 0), (1, 2)])), False)

    def test_the_same_word_of_an_object_in_one(self):
        one, other = pair()
        one.new(0, 0)
        one.set_root(4, 6)
        other.set_root(4, 6)
        for space, last in ((one, other), (other, one)):
            self.assertEqual(compare(space, last), ("word", (5,)))
            self.assertTrue(judge(space, last, ("word", (5,))))
        self.assertIs(judge(one, other, ("alike", [(0, 0), (1, 2)])), False)
        self.assertIs(judge(other, one, ("alike", [(0, 0), (2, 1)])), False)

    def test_others(self):
        one, other = pair()
        other.store.put(2, 1, 5)
        one.set_root(3, 4)
        for verdict, found in ((("held",), False), (("word", (1, 2)), True), (("word", (1, 1)), False), (("word", (1,)), False),
                               (("word", (4,)), False), (("word", (1, 3)), False), (("word", ()), False), (("word", (-1,)), False),
                               (("word", (1, 2, 0)), False), (("size", (1,)), False), (("size", (4,)), False), (("size", ()), False),
                               (("size", (1, 2)), False), (("same", (0,), (4,)), True), (("same", (4,), (0,)), True),
                               (("same", (0,), (0,)), False), (("same", (0,), ()), False), (("same", (0,), (1, 2)), False)):
            self.assertIs(judge(one, other, verdict), found, verdict)


class Images(unittest.TestCase):
    def test_alike_exactly_if_saved_alike(self):
        builds = [lambda: new_image(1000, 100), lambda: new_image(1001, 100), lambda: new_image(1000, 101), machine, scene, point_machine]
        images = [build() for build in builds for _ in range(2)]
        for one in images:
            for other in images:
                self.assertIs(alike_images(one, other), saved(one) == saved(other))

    def test_changed_images(self):
        chance, seen = random.Random(6), {True: 0, False: 0}
        plain = scene()
        numbers = saved(plain)
        for _ in range(150):
            image = scene()
            other_way(image, chance)
            store = image.store()
            kind = chance.randrange(5)
            found = sorted(found_without(image.space))
            number = chance.choice([number for number in found if store.size(number)])
            if kind == 1:
                store.put(number, chance.randrange(store.size(number)), chance.choice([0, 2, 5, image.symbol("go"), 2 * chance.choice(found)]))
            elif kind == 2:
                image.symbol("newest")
            elif kind == 3:
                image.array([5])
                image.trace.append(("show", 1, ("nil",)))
            elif kind == 4:
                image.space.set_root(5, of_int(chance.choice([7, 8])))
            same = saved(image) == numbers
            seen[same] += 1
            self.assertEqual([alike_images(plain, image), alike_images(image, plain)], [same, same])
        self.assertGreater(min(seen.values()), 30)

    def test_symbols(self):
        one, other = machine(), machine()
        one.symbol("a")
        one.symbol("b")
        other.symbol("b")
        other.symbol("a")
        self.assertFalse(alike_images(one, other))

    def test_room_and_entries(self):
        one, other = machine(), machine()
        other.store().room += 1
        self.assertFalse(alike_images(one, other))
        other.store().room -= 1
        self.assertTrue(alike_images(one, other))
        other.store().entries += 1
        self.assertFalse(alike_images(one, other))

    def test_held_words(self):
        one, other = machine(), machine()
        one.space.hold(5)
        self.assertFalse(alike_images(one, other))
        other.space.hold(9)
        self.assertFalse(alike_images(one, other))
        one.space.hold(2 * one.space.new(0, 1))
        other.space.drop(1)
        other.space.hold(5)
        other.new("Array", 5)
        other.space.hold(2 * other.space.new(0, 1))
        self.assertTrue(alike_images(one, other))


class StayingAlike(unittest.TestCase):
    """Point 24.4: alike images stay alike, with the same answers, whatever is done with both."""

    def test_programs(self):
        chance = random.Random(8)
        for seed in range(6, 60, 18):
            program, choices = PROGRAMS[seed]
            one, other = image_for(program), image_for(program)
            other_way(other, chance)
            other.space.press([], always=True)
            for size in (3, 50, 200):
                self.assertEqual(run_image(one, choices, size), run_image(other, choices, size))
                self.assertTrue(alike_images(one, other))
                other_way(other, chance)
            self.assertEqual(one.trace, other.trace)

    def answer(self, action):
        try:
            action()
        except NoRoom as error:
            return error.need
        except BadMethod as error:
            return (error.owner, error.selector)
        return None

    def test_changes_that_find_no_room(self):
        # The same object is the first that does not fit, whatever the numbers are.
        chance = random.Random(9)

        def build():
            image = machine()
            define_class(image, "Point", "Object", ["x"])
            define_class(image, "Spot", "Point", ["y", "z"])
            define_global(image, "Home")
            for name in ("Spot", "Point"):
                install(image, image.class_named(name), "x ^x")
            kept = image.array([0] * 8)
            image.put(image.association("Home"), 1, kept)
            for at in range(8):
                image.put(kept, at, instance(image, ("Point", "Spot")[at % 2]))
            return image
        needs = set()
        for extra in range(0, 90, 2):
            one, other = build(), build()
            other_way(other, chance)
            for image in (one, other):
                image.store().room = image.space.live_words() + extra
            found = [self.answer(lambda image=image: reshape(image, "Point", "Object", ["a", "x"])) for image in (one, other)]
            self.assertEqual(found[0], found[1])
            self.assertTrue(alike_images(one, other))
            needs.add(found[0])
        self.assertEqual(needs, {5, 7, None})

    def test_everything_else(self):
        chance = random.Random(10)
        one, other = scene(), scene()
        for image in (one, other):
            image.space.drop(image.space.held())
        for k in range(4):
            for image in (one, other):
                define_class(image, "New" + str(k), "Point", ["n" + str(k)])
                define_global(image, "Home" + str(k))
                install(image, image.class_named("Spot"), "n" + str(k) + " ^[x + " + str(k) + "]")
                started(image, "go Home" + str(k) + " := Spot new. ^Home" + str(k) + " n" + str(k) + " value")
                run_image(image, [k], 30)
                reshape(image, "Point", "Object", ["y", "x", "k" + str(k)])
            self.assertTrue(alike_images(one, other))
            other_way(other, chance)
            if k == 2:
                trace = other.trace
                other = loaded(saved(other))
                other.trace.extend(trace)
        self.assertEqual(one.trace, other.trace)


if __name__ == "__main__":
    unittest.main()
