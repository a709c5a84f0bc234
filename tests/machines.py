"""Images with primitives for tests, and runs of them."""

from saggar.kernel import define_class, new_image
from saggar.methods import install
from saggar.primitives import install_primitives
from saggar.processes import choose, ready, running, spawn
from saggar.stepping import step


def machine(room=20000, entries=4000):
    """Returns an image with the primitives."""
    image = new_image(room, entries)
    install_primitives(image)
    return image


def started(image, source, receiver=0, owner="Undefined"):
    """Returns a new process that carries out a source without arguments."""
    return spawn(image, install(image, image.class_named(owner), source), receiver, [])


def run(image, choices=(), limit=100000):
    """Runs an image; returns how many steps were done."""
    choices = list(choices)
    for count in range(limit):
        if running(image) == 0:
            if not ready(image):
                return count
            choose(image, choices.pop(0) if choices else 0)
        step(image)
    return limit


def traced(source, choices=(), image=None, always=False):
    """Runs a source in an image with the primitives; returns the trace."""
    image = machine() if image is None else image
    image.space.press([], always=always)
    started(image, source)
    run(image, choices)
    return image.trace


def result_of(source, image=None):
    """Returns the last row of the trace behind a run of a source, without what is always the same."""
    kind, _, what = traced(source, image=image)[-1]
    assert kind == "end"
    return what


def instance(image, name):
    """Returns the word of a new object of a class."""
    word = image.class_named(name)
    return 2 * image.space.new(word, image.layout(word))


def point_image():
    """Returns an image with two classes of points, and the primitives."""
    image = machine()
    define_class(image, "Point", "Object", ["x", "y"])
    define_class(image, "Spot", "Point", ["colour"])
    return image
