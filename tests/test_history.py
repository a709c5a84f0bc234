"""Histories: points 25.1 to 25.5."""

import random
import unittest

from saggar.history import History
from saggar.images import loaded, saved
from saggar.kernel import define_global
from saggar.processes import number_of, ready, running, shown
from saggar.running import run_image
from saggar.words import of_int
from tests.machines import machine, started
from tests.test_programs import PROGRAMS, image_for
from tests.test_running import point_machine

DONE, WEARY, STUCK = ("done",), ("weary",), ("no room",)
COUNTER = "go Sum := 1. nil yield. Sum := Sum + 1. Sum show. nil yield. Last := Sum. Sum := nil"


def counting(sources=(COUNTER,)):
    """Returns an image with two globals and processes that set them."""
    image = machine()
    for name in ("Sum", "Last"):
        define_global(image, name)
    for source in sources:
        started(image, source)
    return image


def run_to(image, choices, step):
    """Returns a copy of an image, run to a step at once."""
    copy = loaded(saved(image))
    copy.trace.extend(image.trace)
    run_image(copy, choices, step)
    return copy


def run_in_place(image, step):
    """Returns an image itself, run to a step."""
    run_image(image, [], step)
    return image


def look(image, name):
    return shown(image, image.get(image.association(name), 1))


def noted(image, choices, names, limit):
    """A second reading of point 25.3: runs a copy step by step and compares what the globals look like."""
    copy = run_to(image, [], 0)
    choices = list(choices)
    looks = {name: look(copy, name) for name in names}
    found = [(0, 0, name, looks[name]) for name in names]
    for step in range(1, limit + 1):
        chosen = running(copy) == 0
        if chosen and not ready(copy):
            break
        order = ready(copy)
        number = choices.pop(0) if chosen and choices else 0
        process = number_of(copy, order[number % len(order)] if chosen else running(copy))
        run_image(copy, [number], 1)
        for name in names:
            if look(copy, name) != looks[name]:
                looks[name] = look(copy, name)
                found.append((step, process, name, looks[name]))
    return found


class Steps(unittest.TestCase):
    def test_no_process(self):
        history = History(machine(), [], 3, [])
        self.assertEqual([history.advance(0), history.advance(5), history.steps(), history.kept(), history.changes()],
                         [DONE, DONE, 0, [0], []])

    def test_pieces(self):
        image = counting()
        total = 0
        copy = run_to(image, [], 0)
        while run_image(copy, [], 1) == WEARY:
            total += 1
        total += 1
        for size in (1, 2, 5, 7, total - 1, total, 1000):
            history = History(image, [], 4, ["Sum"])
            answers, counts = [history.advance(0)], []
            while answers[-1] == WEARY:
                answers.append(history.advance(size))
                counts.append(history.steps())
            self.assertEqual(counts, [min(total, size * (k + 1)) for k in range(len(counts))])
            self.assertEqual([answers[-1], history.steps()], [DONE, total])
            self.assertEqual(history.kept(), list(range(0, total + 1, 4)))
            self.assertEqual([history.advance(3), history.advance(0), history.steps()], [DONE, DONE, total])
        # Behind the last step the answer is already done.
        history = History(image, [], 4, [])
        self.assertEqual([history.advance(total - 1), history.advance(1)], [WEARY, DONE])

    def test_choices_however_it_is_cut(self):
        image = counting([COUNTER] * 3)
        choices = [2, 1, 1, 5, 0, 3]
        plain = run_to(image, choices, 10000)
        for sizes in ([10000], [1] * 300, [3, 0, 5] * 50):
            history = History(image, choices, 1000, ["Sum"])
            for size in sizes:
                history.advance(size)
            self.assertEqual(history.at(history.steps()).trace, plain.trace)
            self.assertEqual(saved(history.at(history.steps())), saved(plain))

    def test_kept(self):
        for gap, steps, kept in ((1, 3, [0, 1, 2, 3]), (2, 5, [0, 2, 4]), (3, 6, [0, 3, 6]), (10 ** 9, 6, [0])):
            history = History(counting(), [], gap, [])
            history.advance(steps)
            self.assertEqual(history.kept(), kept)
            history.kept().clear()
            self.assertEqual(history.kept(), kept)


class Images(unittest.TestCase):
    def check(self, image, choices, gap, limit, names=()):
        history = History(image, choices, gap, list(names))
        history.advance(limit)
        return history

    def test_at_each_step(self):
        image = counting([COUNTER] * 2)
        run_image(image, [], 7)
        choices = [1, 0, 1]
        for gap in (1, 2, 3, 7, 1000):
            history = self.check(image, choices, gap, 1000)
            for step in range(history.steps() + 1):
                found, wanted = history.at(step), run_to(image, choices, step)
                self.assertEqual([found.trace, saved(found)], [wanted.trace, saved(wanted)], (gap, step))
                self.assertEqual(found.space.held(), 0)

    def test_of_programs(self):
        for seed in range(8, 60, 17):
            program, choices = PROGRAMS[seed]
            image = image_for(program)
            history = self.check(image, choices, 64, 500)
            other = self.check(image, choices, 1000, 500)
            for step in random.Random(seed).sample(range(history.steps() + 1), 6):
                wanted = run_to(image, choices, step)
                for found in (history.at(step), other.at(step)):
                    self.assertEqual([found.trace, saved(found)], [wanted.trace, saved(wanted)])

    def test_the_trace_that_there_was(self):
        image = counting(["go 1 show", COUNTER])
        run_image(image, [], 4)
        self.assertEqual(len(image.trace), 1)
        history = self.check(image, [], 5, 1000)
        self.assertEqual(history.at(0).trace, image.trace)
        self.assertEqual(history.at(history.steps()).trace, run_to(image, [], 1000).trace)

    def test_images_go_on(self):
        image = counting([COUNTER] * 2)
        history = self.check(image, [1, 1], 4, 20)
        plain = run_to(image, [1, 1], 1000)
        found = history.at(20)
        self.assertEqual(run_image(found, [], 1000), DONE)
        self.assertEqual(len(found.trace), len(plain.trace))

    def test_changing_them_changes_nothing(self):
        image = counting()
        history = self.check(image, [], 4, 15, ["Sum"])
        before = [history.at(step).trace for step in range(16)], [saved(history.at(step)) for step in range(16)], history.changes()
        for step in (0, 3, 4, 15):
            found = history.at(step)
            run_image(found, [], 1000)
            found.put(found.association("Sum"), 1, of_int(77))
            found.trace.clear()
            found.symbol("newest")
        history.changes().clear()
        self.assertEqual(([history.at(step).trace for step in range(16)], [saved(history.at(step)) for step in range(16)],
                          history.changes()), before)
        self.assertEqual(history.advance(1000), DONE)
        self.assertEqual(history.at(history.steps()).trace, run_to(image, [], 1000).trace)

    def test_the_image_that_is_passed(self):
        image = counting()
        choices, names = [1, 2], ["Sum"]
        before = [image.store().words[:], image.space.all_roots(), image.trace[:], image.symbols.texts(), image.space.collections]
        history = History(image, choices, 3, names)
        history.advance(10)
        self.assertEqual(before, [image.store().words, image.space.all_roots(), image.trace, image.symbols.texts(), image.space.collections])
        # And what is done with it, and with the lists, does not change the history.
        numbers = saved(history.at(10))
        run_image(image, [], 1000)
        choices[:] = [9, 9, 9]
        names.append("Last")
        self.assertEqual([saved(history.at(10)), history.changes()[0], len([c for c in history.changes() if c[0] == 0])],
                         [numbers, (0, 0, "Sum", ("nil",)), 1])


class Changes(unittest.TestCase):
    def test_against_a_second_reading(self):
        for sources in ([COUNTER], [COUNTER] * 3, ["go Sum := Object new. Sum := Object new. Last := Sum. Sum := Array new: 2. Sum become: Last"]):
            for choices in ([], [1, 2, 1, 0, 5]):
                image = counting(sources)
                for names in (["Sum"], ["Last", "Sum"], ["Sum", "Last"], []):
                    history = History(image, choices, 6, names)
                    history.advance(1000)
                    self.assertEqual(history.changes(), noted(image, choices, names, 1000))

    def test_programs(self):
        count = 0
        for seed in range(9, 60, 10):
            program, choices = PROGRAMS[seed]
            image = image_for(program)
            names = ["Total", "Home", "Gate", "Point"]
            history = History(image, choices, 100, names)
            history.advance(400)
            self.assertEqual(history.changes(), noted(image, choices, names, 400))
            count += len(history.changes())
        self.assertGreater(count, 30)

    def test_at_the_beginning(self):
        image = counting()
        image.put(image.association("Last"), 1, of_int(4))
        history = History(image, [], 1, ["Last", "Point", "Sum"][::2])
        self.assertEqual(history.changes(), [(0, 0, "Last", ("int", 4)), (0, 0, "Sum", ("nil",))])
        self.assertEqual([history.value("Last", 0), history.setter("Last", 0)], [("int", 4), (0, 0)])

    def test_two_by_one_step(self):
        # What both look like changes when their objects are exchanged, in the order of the names.
        source = "go Sum := Object new. Last := Array new: 1. Sum become: Last"
        for names in (["Sum", "Last"], ["Last", "Sum"]):
            history = History(counting([source]), [], 5, names)
            history.advance(1000)
            rows = history.changes()[-2:]
            self.assertEqual([row[2] for row in rows], names)
            self.assertEqual([rows[0][0], rows[0][1]], [rows[1][0], 1])
            self.assertEqual({row[2]: row[3] for row in rows}, {"Sum": ("object", "Array"), "Last": ("object", "Object")})

    def test_looks_only(self):
        # Another object of the same class looks the same, and so does the same number.
        history = History(counting(["go Sum := Object new. Sum := Object new. Sum := 3. Sum := 1 + 2. Sum := #a. Sum := #a"]), [], 5, ["Sum"])
        history.advance(1000)
        self.assertEqual([row[3] for row in history.changes()], [("nil",), ("object", "Object"), ("int", 3), ("symbol", "a")])

    def test_a_process_that_ends_in_its_step(self):
        # The last step of a process sets nothing here, so the change is by the step before; the number is that of the process.
        image = counting(["go ^1", "go Sum := 2"])
        history = History(image, [], 5, ["Sum"])
        history.advance(1000)
        self.assertEqual(history.changes()[1], (4, 2, "Sum", ("int", 2)))

    def test_values_and_setters(self):
        image = counting([COUNTER] * 2)
        choices = [0, 1, 1, 0]
        history = History(image, choices, 7, ["Last", "Sum"])
        history.advance(1000)
        rows = noted(image, choices, ["Last", "Sum"], 1000)
        for step in range(history.steps() + 1):
            wanted = run_to(image, choices, step)
            for name in ("Sum", "Last"):
                self.assertEqual(history.value(name, step), look(wanted, name))
                last = [row for row in rows if row[2] == name and row[0] <= step][-1]
                self.assertEqual(history.setter(name, step), (last[0], last[1]))


class Wishes(unittest.TestCase):
    def test_against_all_steps(self):
        image = counting([COUNTER] * 2)
        choices = [0, 1, 1, 0]
        history = History(image, choices, 7, ["Last", "Sum"])
        history.advance(1000)
        looks = [("nil",), ("int", 1), ("int", 2), ("int", 3), ("symbol", "a")]
        values = {name: [history.value(name, step) for step in range(history.steps() + 1)] for name in ("Sum", "Last")}
        wishes = [[]] + [[(name, what)] for name in ("Sum", "Last") for what in looks]
        wishes += [[("Sum", one), ("Last", other)] for one in looks for other in looks] + [[("Sum", ("nil",)), ("Sum", ("int", 1))]]
        found = set()
        for wish in wishes:
            broken = [step for step in range(history.steps() + 1) if any(values[name][step] != what for name, what in wish)]
            self.assertEqual(history.first_break(wish), broken[0] if broken else None)
            found.add(history.first_break(wish))
        self.assertLessEqual({None, 0, 2}, found)

    def test_only_steps_that_have_been_done(self):
        history = History(counting(), [], 5, ["Sum"])
        wish = [("Sum", ("nil",))]
        self.assertEqual([history.first_break(wish), history.advance(1), history.first_break(wish), history.advance(1),
                          history.first_break(wish)], [None, WEARY, None, WEARY, 2])

    def test_one_that_never_holds(self):
        history = History(counting(), [], 5, ["Sum", "Last"])
        self.assertEqual([history.first_break([("Sum", ("int", 9))]), history.first_break([])], [0, None])
        history.advance(1000)
        # A global that is set back has broken the wish before.
        self.assertEqual(history.value("Sum", history.steps()), ("nil",))
        self.assertEqual(history.first_break([("Sum", ("nil",))]), 2)
        self.assertIsNone(history.first_break([]))


class Branches(unittest.TestCase):
    def test_other_choices(self):
        image = counting([COUNTER, "go Sum := #other. nil yield. Sum show"])
        history = History(image, [1, 0, 0], 4, ["Sum", "Last"])
        history.advance(1000)
        before = [history.steps(), history.kept(), history.changes(), saved(history.at(9))]
        for step in (0, 3, 4, 9, history.steps()):
            for choices in ([], [1, 1], [0, 1, 0, 1]):
                branch = history.branch(step, choices)
                self.assertEqual([branch.steps(), branch.kept()], [0, [0]])
                self.assertEqual(branch.changes(), [(0, 0, name, history.value(name, step)) for name in ("Sum", "Last")])
                wanted = run_to(history.at(step), choices, 1000)
                branch.advance(1000)
                found = branch.at(branch.steps())
                self.assertEqual([found.trace, saved(found)], [wanted.trace, saved(wanted)])
                self.assertEqual(branch.kept(), list(range(0, branch.steps() + 1, 4)))
        self.assertEqual([history.steps(), history.kept(), history.changes(), saved(history.at(9))], before)

    def test_branches_of_branches(self):
        image = counting([COUNTER] * 2)
        history = History(image, [1], 3, ["Sum"])
        history.advance(10)
        branch = history.branch(5, [0]).branch(0, [1, 1])
        branch.advance(1000)
        self.assertEqual(branch.at(branch.steps()).trace, run_to(history.at(5), [1, 1], 1000).trace)
        # The first one goes on by its own choices.
        self.assertEqual([history.steps(), history.advance(1000)], [10, DONE])
        self.assertEqual(history.at(history.steps()).trace, run_to(image, [1], 1000).trace)


class Room(unittest.TestCase):
    SOURCE = "go Sum := 1. nil yield. Sum := Array new: 500. Sum := 3"

    def stuck(self, gap=4):
        image = counting([self.SOURCE, "go nil yield. nil yield. nil yield. Last := 1"])
        image.space.collect()
        image.store().room = max(1000, image.space.live_words() + 300)
        return image, History(image, [0, 1, 0, 1], gap, ["Sum", "Last"])

    def test_a_step_that_finds_no_room(self):
        image, history = self.stuck()
        self.assertEqual(history.advance(1000), STUCK)
        count = history.steps()
        plain = run_to(image, [0, 1, 0, 1], 0)
        self.assertEqual([run_image(plain, [0, 1, 0, 1], count), run_image(plain, [0, 1][:0], 0)], [WEARY, WEARY])
        for _ in range(3):
            self.assertEqual([history.advance(1), history.advance(1000), history.advance(0), history.steps()],
                             [STUCK, STUCK, WEARY, count])
        self.assertEqual(history.changes()[-1][3], ("int", 1))
        # The image is that behind the last step that was done.
        wanted = run_to(image, [0, 1, 0, 1], count)
        self.assertEqual([saved(history.at(count)), history.at(count).trace], [saved(wanted), wanted.trace])

    def test_only_when_it_is_due(self):
        _, history = self.stuck()
        history.advance(1000)
        count = history.steps()
        _, other = self.stuck()
        self.assertEqual([other.advance(count), other.advance(0), other.advance(1), other.advance(0)], [WEARY, WEARY, STUCK, WEARY])
        self.assertEqual(other.steps(), count)

    def test_a_room_that_is_smaller_than_that_of_new_images(self):
        image = counting(["go Sum := Array new: 9. Sum := Array new: 90"])
        image.store().room = image.space.live_words() + 50
        self.assertLess(image.store().room, 1000)
        history = History(image, [], 3, ["Sum"])
        self.assertEqual([history.advance(1000), history.changes()[-1][3]], [STUCK, ("object", "Array")])
        self.assertEqual(saved(history.at(history.steps())), saved(run_in_place(image, history.steps())))

    def test_a_branch_of_it(self):
        # It comes to the same step, or ends before.
        image, history = self.stuck()
        history.advance(1000)
        count = history.steps()
        branch = history.branch(count, [])
        self.assertEqual([branch.steps(), branch.advance(0), branch.advance(1000)], [0, WEARY, STUCK])
        self.assertEqual(branch.advance(0), WEARY)
        self.assertEqual(history.advance(1), STUCK)

    def test_no_number(self):
        image = counting(["go Sum := 1. [Sum := 2] fork. Sum := 3"])
        image.space.set_root(5, of_int((1 << 28) - 1))
        history = History(image, [], 2, ["Sum"])
        self.assertEqual([history.advance(1000), history.advance(0), history.value("Sum", history.steps())], [STUCK, WEARY, ("int", 1)])

    def test_a_process_that_was_chosen_for_it(self):
        # The step that finds no room is the first one of the process that was chosen; behind the last step none runs.
        image = counting(["go nil yield. ^1", "go ^1"])
        image.put(image.association("Last"), 1, image.array([0] * 1000))
        started(image, "again ^[1]")
        image.space.collect()
        image.store().room = image.space.live_words() + 4
        for gap in (1, 2, 50):
            history = History(image, [0, 1], gap, [])
            self.assertEqual([history.advance(1000), history.steps()], [STUCK, 2])
            found = history.at(2)
            self.assertEqual([running(found), len(ready(found)), saved(found)], [0, 3, saved(run_to(image, [0, 1], 2))])
            self.assertEqual(run_image(found, [0], 2), WEARY)
            self.assertEqual(history.branch(2, [0]).advance(2), WEARY)
            self.assertEqual(history.branch(2, [1]).advance(2), STUCK)


class Errors(unittest.TestCase):
    def test_errors_of_processes_are_steps(self):
        image = point_machine()
        started(image, "go Shared := 1. nil foo")
        started(image, "go Shared := 2")
        history = History(image, [], 3, ["Shared"])
        self.assertEqual(history.advance(1000), DONE)
        self.assertEqual([row[1:] for row in history.changes()], [(0, "Shared", ("nil",)), (1, "Shared", ("int", 1)), (2, "Shared", ("int", 2))])
        self.assertEqual(history.at(history.steps()).trace, run_to(image, [], 1000).trace)


if __name__ == "__main__":
    unittest.main()
