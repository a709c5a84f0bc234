"""Running: steps of whichever processes the choices pick."""

from saggar.errors import NoNumber, NoRoom
from saggar.kernel import FIRST_READY
from saggar.processes import choose, running
from saggar.stepping import step
from saggar.words import NIL

# The answers of a run.
DONE = ("done",)
WEARY = ("weary",)
STUCK = ("no room",)


class Chooser:
    """Choices that are made one after the other, and 0 behind them."""

    def __init__(self, choices, taken):
        self.choices = list(choices)
        # How many have been made, those behind the list included.
        self.taken = taken

    def take(self):
        """Makes the next choice; returns it."""
        number = 0
        if self.taken < len(self.choices):
            number = self.choices[self.taken]
        self.taken = self.taken + 1
        return number


def run_image(image, choices, limit):
    """Runs an image for at most so many steps; returns what came of it."""
    return run_by(image, Chooser(choices, 0), limit)


def run_by(image, chooser, limit):
    """Runs an image by the choices that are left; returns what came of it."""
    for _ in range(limit):
        if is_idle(image):
            return DONE
        let_run(image, chooser)
        if not try_step(image):
            return STUCK
    return state_of(image)


def is_idle(image):
    """Returns True if no process is running or ready."""
    return running(image) == NIL and image.space.root(FIRST_READY) == NIL


def state_of(image):
    """Returns what comes of a run that goes no further."""
    return DONE if is_idle(image) else WEARY


def let_run(image, chooser):
    """Chooses a process if none is running; one is ready then."""
    if running(image) == NIL:
        choose(image, chooser.take())


def try_step(image):
    """Does a step of the running process; returns False if it finds no room."""
    try:
        step(image)
    except (NoRoom, NoNumber):
        return False
    return True
