"""Worlds: images that obey commands."""

from saggar.errors import BadClass, BadMethod, NoNumber, NoRoom, NoSymbol
from saggar.images import loaded, saved
from saggar.kernel import define_class, define_global, new_image
from saggar.methods import draft_for, install, make_method
from saggar.primitives import install_primitives
from saggar.processes import number_of, spawn
from saggar.reshaping import reshape
from saggar.running import run_image
from saggar.words import NIL

PRELUDE = (
    ("Object", "isNil ^ false"),
    ("Object", "yourself ^ self"),
    ("Object", "~= other ^ (self = other) not"),
    ("Undefined", "isNil ^ true"),
    ("True", "not ^ false"),
    ("True", "and: block ^ block value"),
    ("True", "or: block ^ true"),
    ("True", "ifTrue: block ^ block value"),
    ("True", "ifFalse: block ^ nil"),
    ("True", "ifTrue: first ifFalse: second ^ first value"),
    ("False", "not ^ true"),
    ("False", "and: block ^ false"),
    ("False", "or: block ^ block value"),
    ("False", "ifTrue: block ^ nil"),
    ("False", "ifFalse: block ^ block value"),
    ("False", "ifTrue: first ifFalse: second ^ second value"),
    ("Integer", "<= other ^ (self > other) not"),
    ("Integer", ">= other ^ (self < other) not"),
    ("Integer", "max: other ^ self > other ifTrue: [self] ifFalse: [other]"),
    ("Integer", "min: other ^ self < other ifTrue: [self] ifFalse: [other]"),
    ("Integer", "timesRepeat: block | k | k := 0. [k < self] whileTrue: [block value. k := k + 1]"),
    ("Integer", "to: last do: block | k | k := self. [k > last] whileFalse: [block value: k. k := k + 1]"),
    ("Array", "do: block | k | k := 1. [k <= self size] whileTrue: [block value: (self at: k). k := k + 1]"),
    ("Block", "whileTrue: body [self value] whileTrue: [body value]"),
    ("Block", "whileFalse: body [self value not] whileTrue: [body value]"),
)
# What comes of a command that has nothing to tell.
OBEYED = ("ok",)


def fresh_image(room, entries):
    """Returns an image with the primitives and the first methods."""
    image = new_image(room, entries)
    install_primitives(image)
    for name, source in PRELUDE:
        install(image, image.kernel(name), source)
    return image


def start(image, source):
    """Starts a process that carries out a source; returns its number."""
    owner = image.kernel("Undefined")
    draft = draft_for(image, owner, source)
    count = image.space.held()
    try:
        process = spawn(image, make_method(image, owner, source, draft), NIL, [])
    except (NoRoom, NoNumber, NoSymbol):
        image.let_go(count)
        raise
    image.let_go(count)
    return number_of(image, process)


class World:
    """An image that is changed by commands."""

    def __init__(self, image):
        self.image = image

    def obey(self, command):
        """Carries out a command; returns what comes of it."""
        action = ACTIONS[command[0]]
        try:
            return action(self, command)
        except BadClass as refusal:
            return ("refused", "class", refusal.why)
        except BadMethod as error:
            return ("refused", "method", error.selector)
        except (NoRoom, NoNumber, NoSymbol):
            return ("refused", "room")


def obey_class(world, command):
    """Defines a class."""
    _, name, superclass, fields = command
    define_class(world.image, name, superclass, list(fields))
    return OBEYED


def obey_global(world, command):
    """Defines a global."""
    _, name = command
    define_global(world.image, name)
    return OBEYED


def obey_method(world, command):
    """Installs a method."""
    _, name, source = command
    owner = world.image.class_named(name)
    if owner is None:
        raise BadClass("name")
    install(world.image, owner, source)
    return OBEYED


def obey_reshape(world, command):
    """Reshapes a class."""
    _, name, superclass, fields = command
    reshape(world.image, name, superclass, list(fields))
    return OBEYED


def obey_start(world, command):
    """Starts a process."""
    _, source = command
    return ("started", start(world.image, source))


def obey_run(world, command):
    """Runs the image."""
    _, choices, limit = command
    return run_image(world.image, list(choices), limit)


def obey_collect(world, command):
    """Frees what is not reached."""
    world.image.space.collect()
    return OBEYED


def obey_pressure(world, command):
    """Lets the space collect ahead of every allocation, or not."""
    _, always = command
    world.image.space.press([], always=always)
    return OBEYED


def obey_reload(world, command):
    """Goes on with the image that is saved and loaded."""
    before = world.image
    image = loaded(saved(before))
    image.trace.extend(before.trace)
    image.space.press([], always=before.space.always)
    world.image = image
    return OBEYED


ACTIONS = {
    "class": obey_class,
    "global": obey_global,
    "method": obey_method,
    "reshape": obey_reshape,
    "start": obey_start,
    "run": obey_run,
    "collect": obey_collect,
    "pressure": obey_pressure,
    "reload": obey_reload,
}


def run_script(room, entries, commands):
    """Returns what comes of some commands in a fresh image, and the trace."""
    world = World(fresh_image(room, entries))
    answers = [world.obey(command) for command in commands]
    return (answers, world.image.trace)
