"""Histories: runs that are kept, and can be asked later."""

from saggar.images import copied, image_of, saved
from saggar.processes import number_of, running, shown
from saggar.running import DONE, STUCK, Chooser, is_idle, let_run, run_by, state_of, try_step
from saggar.slots import GLOBAL_VALUE


class Kept:
    """An image that was saved during a run."""

    def __init__(self, image, taken):
        self.saved_as = saved(image)
        # How long the trace was, and how many choices had been made.
        self.shown = len(image.trace)
        self.taken = taken


class History:
    """A run of a copy of an image, step by step."""

    def __init__(self, image, choices, gap, names):
        self.gap = gap
        self.names = list(names)
        self.image = copied(image)
        self.chooser = Chooser(choices, 0)
        self.done = 0
        # Whether a step has found no room.
        self.stuck = False
        self.images = [Kept(self.image, 0)]
        # All changes in order, and those of each watched global.
        self.noted = []
        self.noted_of = {name: [] for name in self.names}
        for name in self.names:
            self.note(0, name, self.look_of(name))

    def advance(self, count):
        """Does at most so many steps more; returns what came of it."""
        if self.stuck and count > 0:
            return STUCK
        for _ in range(count):
            if is_idle(self.image):
                return DONE
            if not self.go_on():
                self.stuck = True
                return STUCK
        return state_of(self.image)

    def steps(self):
        """Returns how many steps have been done."""
        return self.done

    def kept(self):
        """Returns the list of the numbers of steps behind which the image was saved."""
        return [k * self.gap for k in range(len(self.images))]

    def at(self, step):
        """Returns a new image, as it was behind so many steps."""
        kept = self.images[step // self.gap]
        image = image_of(kept.saved_as)
        image.trace.extend(self.image.trace[:kept.shown])
        run_by(image, Chooser(self.chooser.choices, kept.taken), step % self.gap)
        return image

    def changes(self):
        """Returns the list of the changes, the first one first."""
        return list(self.noted)

    def value(self, name, step):
        """Returns what a watched global looked like behind so many steps."""
        return self.last_change(name, step)[3]

    def setter(self, name, step):
        """Returns the step and the process that made a watched global look so."""
        change = self.last_change(name, step)
        return (change[0], change[1])

    def first_break(self, wish):
        """Returns the first step behind which a wish did not hold, or None."""
        breaks = []
        for name, what in wish:
            breaks.extend([change[0] for change in self.noted_of[name] if change[3] != what])
        return min(breaks, default=None)

    def branch(self, step, choices):
        """Returns a new history that goes on from a step by other choices."""
        return History(self.at(step), choices, self.gap, self.names)

    def go_on(self):
        """Does a step; returns False if it finds no room."""
        let_run(self.image, self.chooser)
        process = number_of(self.image, running(self.image))
        if not try_step(self.image):
            return False
        self.done = self.done + 1
        for name in self.names:
            look = self.look_of(name)
            if look != self.noted_of[name][-1][3]:
                self.note(process, name, look)
        if self.done % self.gap == 0:
            self.images.append(Kept(self.image, self.chooser.taken))
        return True

    def look_of(self, name):
        """Returns what a watched global looks like now."""
        return shown(self.image, self.image.get(self.image.association(name), GLOBAL_VALUE))

    def note(self, process, name, what):
        """Notes a change."""
        change = (self.done, process, name, what)
        self.noted.append(change)
        self.noted_of[name].append(change)

    def last_change(self, name, step):
        """Returns the last change of a watched global up to a step."""
        changes = self.noted_of[name]
        low = 0
        high = len(changes)
        # The change at low was noted by then, that at high was not.
        while high - low > 1:
            middle = (low + high) // 2
            if changes[middle][0] <= step:
                low = middle
            else:
                high = middle
        return changes[low]
